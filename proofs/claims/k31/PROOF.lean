import PyProof.Rows.All
import Wide.All
import OpenK.AllK
import Wide.FinOn
import HandS.ForMost
import HandS.Wide
import HandS.IsInst
import HandS.FStr
import HandS.Defaults
import HandS.StrMore
import HandS.Style
import HandS.TupAny
import HandS.RaiseMore
import HandS.Walk
import HandS.Steps
import HandS.Evl
import HandS.ForExc
import HandS.TryMany
import HandS.TryOnly
import HandS.Replace
import PyProof.Rows.StrPadFill
import KE.KStateDown
import HandS.Head0
import HandS.Head1
import HandS.Head2
import HandS.TupLe
import HandS.Strs
import HandS.More
import PyProof.Rows.SetFrom
import KE.KStar
import HandS.OwnEq
import HandS.MakeKw
import HandS.MakeKwOnly
import KE.KCallOwn
import KE.KFmtOwn
import PyProof.InstEq
import PyProof.CallFns
import PyProof.EqAt
import PyProof.SeqRoads2
import PyProof.WalksMore
import PyProof.ZipIter
import HandS.Zip
import KE.GoesEnumKw
import PyProof.Rows.CallKwBuiltin
import HandS.SortKw
import HandS.SortRule
import HandS.TupSets
import HandS.SetBool
import HandS.DictComp
import HandS.Deep
import HandS.Dict
import KE.KExcSuper
import KE.KSuper
import HandS.Exc
import HandS.ExcInit
import HandS.Nested
import HandS.ClsMeth
import PyProof.Rows.FactsExc_KeyError
import PyProof.ExcBaseAll.LookupError
import KE.KExcIs
import KE.KTypeName
import HandS.Words
import HandS.ExcField
import HandS.RaiseFrom
import KE.RegKSuper
import HandS.Iter
import HandS.WrittenGet
import HandS.Star
import HandS.ExcOwn
import HandS.SortInts
import HandS.Text
import PyProof.StrBlockL
import KE.KUnpackStar
import HandS.ExcValue
import KE.KTryMore
import HandS.ExcInitHot
import HandS.NestedHot
import HandS.SuiteRaise
import PySem.Challenge.RW_pikeroll_k31_texts_that_are_no_pages
set_option Elab.async false
set_option maxRecDepth 100000
set_option linter.all false
set_option Elab.async false
set_option linter.all false
set_option maxRecDepth 100000
/-! a law's head by one kernel run, the part of the heap by the library's own Hook; a row asked of the world is split -/
namespace HdK
open PySem PySem.W PySem.Calls PyProof.Rows
def obK (as : List Addr) (s : SharedT) : List (Option Obj) := as.map (HandSHeadRun.getT s)
theorem head_k {r : OpenRow} {q : Program} {K : Params → Frag} {as : List Addr} {ek : ∀ P, as = (K P).map (·.1)} {M : Nat} {loose : List PySem.Str} {d : DefRec} {kwd : List (PySem.Str × PySem.Expr)} (H : Hook) (hH : H = kHook K as ek) (row : String)
    (e : opening r.prog = plainProg r.prog.main.scope.names) (f : ∀ s, fenceModules? r.prog s = some s)
    (run0 : ∀ w : World, HandSHeadRun.RunEq r q (kHook K as ek) (obK as) M loose (w.withFollow row false)) (run1 : ∀ w : World, HandSHeadRun.RunEq r q (kHook K as ek) (obK as) M loose (w.withFollow row true))
    (hdef : defOf q r.name = some (d, kwd)) (hp : r.prog.theDef r.name = some (d.params, d.body, d.scope)) (hk : kwWritten? d.params.kwonlyargs d.params.kw_defaults = some kwd)
    (hwr : (!r.writes || r.records.isEmpty) = true) (k1 : r.wellSaid = true) (ok : (chainsOk q && opensWell r.prog && (frees r.toRowW && r.within.isEmpty)) = true) (hb : r.prog.bare) (hw : r.toRowW.promised)
    (call : WalkO q loose (XL q []) H.says r.toRowW d kwd fun f vs => PySem.call f vs) : r.Holds := by
  subst hH
  exact HandSHeadRun.head_any (H := kHook K as ek) (ob := obK as) (fun s => List.map_congr_left fun a _ => HandSHeadRun.getT_eq s a) e f (byRow2 row run0 run1) hdef hp hk hwr k1 ok hb hw call
def someP : Params := { strHash := fun _ => 0, shareClass := fun _ => 0, mergeTok := fun t => t, idOf := fun _ => 0, idOfShared := fun _ _ => 0, followText := fun _ => false, idOfImm := fun _ => 0 }
end HdK

namespace Q
def hn0 : List PySem.Str := ["_wall", "PikeError", "BadFact", "Full", "BadPage", "BOUNDS", "SHAPES", "is_number", "is_good", "are_rising", "need_fact", "MOST_FACTS", "Roll", "MOST_FIGURES", "fact_text", "page_of", "is_number_text", "read_numbers", "read_fact", "tell_row", "read_page", "_law_bag", "_law_pull", "_law_like", "_law_gate", "_law_day", "_law_board", "_law_passing", "_law_stretch", "_law_fact"]
def hn1 : List PySem.Str := ["_law_fact_place", "_law_text", "_law_number_read", "_law_fact_read", "_law_words_bent", "_law_sign", "_law_text_bent", "_law_told", "_law_wrong"]
def hnames : List PySem.Str := hn0 ++ hn1
abbrev HR : PySem.W.OpenRow := PySem.W.OpenLaw.row PySem.Challenge.rw_pikeroll_k31_texts_that_are_no_pages
abbrev hq : PySem.Program := PySem.W.view HR.prog [44]
section
open PySem PySem.W PyProof.Rows
local macro_rules | `(tactic| o_head $_) => `(tactic| assumption)
set_option maxHeartbeats 0 in
theorem hcap (h : HR.Holds) : HR.Holds := by
  k_head
end
noncomputable def HAS : List PySem.Addr := (hcap.heap_1 HdK.someP).map (·.1)
set_option maxHeartbeats 0 in
theorem hek (p : PySem.Params) : HAS = (hcap.heap_1 p).map (·.1) := by kernel_rfl
set_option maxHeartbeats 0 in
theorem hrun0 (w : PySem.World) : HandSHeadRun.RunEq HR hq (PySem.W.kHook hcap.heap_1 HAS hek) (HdK.obK HAS) 30000 hnames (w.withFollow "special-get-raises" false) := by
  intro os
  kernel_rfl
set_option maxHeartbeats 0 in
theorem hrun1 (w : PySem.World) : HandSHeadRun.RunEq HR hq (PySem.W.kHook hcap.heap_1 HAS hek) (HdK.obK HAS) 30000 hnames (w.withFollow "special-get-raises" true) := by
  intro os
  kernel_rfl
section
open PySem PySem.W PyProof.Rows
set_option maxHeartbeats 0 in
theorem hlaw (h : HR.Holds) : PySem.Challenge.rw_pikeroll_k31_texts_that_are_no_pages.Holds := by
  w_on; o_law
  exact h
set_option maxHeartbeats 0 in
theorem hprom : HR.toRowW.promised := by
  w_on
  w_witness2
set_option maxHeartbeats 0 in
theorem hhead (hc : WalkO hq hnames (XL hq []) (PySem.W.kHook hcap.heap_1 HAS hek).says HR.toRowW (HandSHeadRun.topDef HR.prog 44) [] fun f vs => PySem.call f vs) : HR.Holds :=
  HdK.head_k (r := HR) (q := hq) (H := PySem.W.kHook hcap.heap_1 HAS hek) (loose := hnames) (d := HandSHeadRun.topDef HR.prog 44) (kwd := []) rfl "special-get-raises" (by kernel_rfl) (fun s => by kernel_rfl) hrun0 hrun1 (by kernel_rfl) (by kernel_rfl) (by kernel_rfl) (by rfl) (by first | assumption | decide +kernel) (by decide +kernel) ⟨rfl, rfl, rfl, rfl, rfl, by decide +kernel⟩ hprom hc
end
end Q

set_option Elab.async false
set_option linter.all false
set_option maxRecDepth 100000
/-! The verifier's own layer: readings step by step, heaps that grow, the drawing bag. -/
namespace Z
open PySem L2

/-- a new object -/
def NewO (o : HO) (H : Hp) (Q : VK) : Prop := ∀ p, H p = none → Q (.ref p) (upd H p o)
/-- all that stood stands -/
def Ex (H H' : Hp) : Prop := ∀ a o, H a = some o → H' a = some o
theorem Ex.new {H : Hp} {p : Addr} {o : HO} (h : H p = none) : Ex H (upd H p o) := fun a u e => by
  rw [upd_ne (ne_of_none e h)]
  exact e
theorem s_new {H : Hp} {Q : VK} {o : HO} (k : ∀ p H', H p = none → Ex H H' → H' p = some o → Q (.ref p) H') : NewO o H Q := fun p hp => k p _ hp (Ex.new hp) upd_same
theorem s_newS {H : Hp} {Q : VK} {o : HO} {n : Nat} (h : n ≤ sizeLine) (k : ∀ p H', H p = none → Ex H H' → H' p = some o → Q (.ref p) H') : n ≤ sizeLine ∧ NewO o H Q := ⟨h, s_new k⟩
/-! ### steps of a reading -/
section
variable {K : PySem.W.Frag} {σ σ' : L2.St} {H H' : Hp} {Q : VK} {ta tb tc te : TE} {t u : TT} {nx bk ct : L2.St → Hp → Prop} {rt : VK} {ts us : TS} {i j : Nat} {v x y : V} {r r' : R2}
theorem s_var (h : σ[i]? = some (some v)) (k : Q v H) : tVar i σ H Q := ⟨v, h, k⟩
theorem s_C (k : Q v H) : tC v σ H Q := k
theorem s_op (k : ta σ H fun x H1 => tb σ H1 fun y H2 => r x y H2 Q) : tOp r ta tb σ H Q := k
theorem s_un {r : V → Hp → VK → Prop} (k : ta σ H fun x H1 => r x H1 Q) : tUn r ta σ H Q := k
theorem s_rI {C : Int → Int → Prop} {g : Int → Int → V} {a b : Int} (hc : C a b) (k : Q (g a b) H) : rI C g (.int a) (.int b) H Q := ⟨a, b, rfl, rfl, hc, k⟩
theorem s_rI0 {g : Int → Int → V} {a b : Int} (k : Q (g a b) H) : rI0 g (.int a) (.int b) H Q := ⟨a, b, rfl, rfl, k⟩
theorem s_rU {g : Int → V} {a : Int} (k : Q (g a) H) : rU g (.int a) H Q := ⟨a, rfl, k⟩
theorem s_rEq (h : scal x y = true) (k : Q (.bl (decide (x = y))) H) : rEq x y H Q := ⟨h, k⟩
theorem s_rNe (h : scal x y = true) (k : Q (.bl (!decide (x = y))) H) : rNe x y H Q := ⟨h, k⟩
theorem s_rEqI {a b : Int} (k : Q (.bl (decide (a = b))) H) : rEq (.int a) (.int b) H Q := ⟨rfl, by
  have e : decide (V.int a = V.int b) = decide (a = b) := by simp
  rw [e]; exact k⟩
theorem s_rNeI {a b : Int} (k : Q (.bl (!decide (a = b))) H) : rNe (.int a) (.int b) H Q := ⟨rfl, by
  have e : decide (V.int a = V.int b) = decide (a = b) := by simp
  rw [e]; exact k⟩
theorem s_rEqS {a b : Str} (k : Q (.bl (decide (a = b))) H) : rEq (.str a) (.str b) H Q := ⟨rfl, by
  have e : decide (V.str a = V.str b) = decide (a = b) := by simp
  rw [e]; exact k⟩
theorem s_rNeS {a b : Str} (k : Q (.bl (!decide (a = b))) H) : rNe (.str a) (.str b) H Q := ⟨rfl, by
  have e : decide (V.str a = V.str b) = decide (a = b) := by simp
  rw [e]; exact k⟩
theorem s_rEqB {a b : Bool} (k : Q (.bl (a == b)) H) : rEq (.bl a) (.bl b) H Q := ⟨rfl, by
  have e : decide (V.bl a = V.bl b) = (a == b) := by cases a <;> cases b <;> rfl
  rw [e]; exact k⟩
theorem s_rNeB {a b : Bool} (k : Q (.bl (a != b)) H) : rNe (.bl a) (.bl b) H Q := ⟨rfl, by
  have e : (!decide (V.bl a = V.bl b)) = (a != b) := by cases a <;> cases b <;> rfl
  rw [e]; exact k⟩
theorem s_tB {R : Bool → Hp → Prop} (k : te σ H fun x H1 => ∃ c, x = .bl c ∧ R c H1) : tB te σ H R := k
theorem s_tTest {R : Bool → Hp → Prop} (k : te σ H fun x H1 => ∃ c, x = .bl c ∧ R c H1) : tTest te σ H R := k
theorem s_bl {c : Bool} {R : Bool → Prop} (k : R c) : ∃ c', V.bl c = .bl c' ∧ R c' := ⟨c, rfl, k⟩
theorem s_and {R : Bool → Hp → Prop} (k : t σ H fun c H1 => if c = true then u σ H1 R else R false H1) : tAnd t u σ H R := k
theorem s_or {R : Bool → Hp → Prop} (k : t σ H fun c H1 => if c = true then R true H1 else u σ H1 R) : tOr t u σ H R := k
theorem s_not {R : Bool → Hp → Prop} (k : t σ H fun c H1 => R (!c) H1) : tNot t σ H R := k
theorem s_andV (k : ta σ H fun x H1 => ∃ c, x = .bl c ∧ if c = true then tb σ H1 Q else Q (.bl false) H1) : tAndV ta tb σ H Q := k
theorem s_orV (k : ta σ H fun x H1 => ∃ c, x = .bl c ∧ if c = true then Q (.bl true) H1 else tb σ H1 Q) : tOrV ta tb σ H Q := k
theorem s_notV (k : ta σ H fun x H1 => ∃ c, x = .bl c ∧ Q (.bl (!c)) H1) : tNotV ta σ H Q := k
theorem s_ifE (k : t σ H fun c H1 => if c = true then ta σ H1 Q else tb σ H1 Q) : tIf t ta tb σ H Q := k
theorem s_chain (k : ta σ H fun x H1 => tb σ H1 fun y H2 => r x y H2 fun z H3 => ∃ c, z = .bl c ∧ (if c = true then tc σ H3 fun w H4 => r' y w H4 Q else Q (.bl false) H3)) : tChain r r' ta tb tc σ H Q := k
theorem s_nil {R : List V → Hp → Prop} (k : R [] H) : tNil σ H R := k
theorem s_cons {tr : TA} {R : List V → Hp → Prop} (k : ta σ H fun x H1 => tr σ H1 fun xs H2 => R (x :: xs) H2) : tCons ta tr σ H R := k
theorem s_CB {r : List V → Hp → VK → Prop} {tr : TA} (k : tr σ H fun vs H1 => r vs H1 Q) : tCB r tr σ H Q := k
theorem s_call {sp : Sp} {dvs : List V} {E : XK} {tr : TA} (k : tr σ H fun vs H1 => sp (vs ++ dvs) H1 Q E) : tCall sp dvs E tr σ H Q := k
abbrev FldR (K : PySem.W.Frag) (f : Str) (x : V) (H : Hp) (Q : VK) : Prop := ∃ a C dx fs v, x = .ref a ∧ H a = some (.ins C dx fs) ∧ Cls K C ∧ NoAttr K C f ∧ fs.lookup f = some v ∧ Q v H
theorem s_fld {f : Str} (k : ta σ H fun x H1 => FldR K f x H1 Q) : tFld K ta f σ H Q := k
theorem s_sl {r : V → Option Int → Option Int → Hp → VK → Prop} {tl th : TO} (k : te σ H fun x H1 => tl σ H1 fun l H2 => th σ H2 fun u H3 => r x l u H3 Q) : tSl r te tl th σ H Q := k
theorem s_noPart {R : Option Int → Hp → Prop} (k : R none H) : tNoPart σ H R := k
def PartI (x : V) (R : Option Int → Hp → Prop) (H : Hp) : Prop := ∃ a, x = .int a ∧ R (some a) H
theorem s_part {R : Option Int → Hp → Prop} (k : te σ H fun x H1 => PartI x R H1) : tPart te σ H R := k
theorem s_partI {a : Int} {R : Option Int → Hp → Prop} (k : R (some a) H) : PartI (.int a) R H := ⟨a, rfl, k⟩
theorem s_bm {T : String} {r : V → List V → Hp → VK → Prop} {tr : TA} (k : ta σ H fun x H1 => tyV K T x H1 ∧ tr σ H1 fun xs H2 => r x xs H2 Q) : tBM K T r ta tr σ H Q := k
theorem s_bm0 {T : String} {r : V → List V → Hp → VK → Prop} (k : ta σ H fun x H1 => tyV K T x H1 ∧ r x [] H1 Q) : tBM0 K T r ta σ H Q := k
theorem s_m0 {r : V → List V → Hp → VK → Prop} (k : ta σ H fun x H1 => (∃ a, x = .str a) ∧ r x [] H1 Q) : tM0 r ta σ H Q := k
theorem s_m1 {r : V → List V → Hp → VK → Prop} (k : ta σ H fun x H1 => (∃ a, x = .str a) ∧ tb σ H1 fun y H2 => r x [y] H2 Q) : tM1 r ta tb σ H Q := k
theorem at_start {D : Ends} {ρ ρ' : L2.St} (e : ρ = ρ') (k : ts D ρ' H) : ts D ρ H := by
  rw [e]
  exact k
theorem s_isStr {z : Str} {R : Prop} (k : R) : (∃ a, V.str z = .str a) ∧ R := ⟨⟨z, rfl⟩, k⟩
/-! statements: the ends stay written out -/
theorem s_next (k : nx σ H) : tNext ⟨nx, rt, bk, ct⟩ σ H := k
theorem s_seq (k : ts ⟨us ⟨nx, rt, bk, ct⟩, rt, bk, ct⟩ σ H) : tSeq ts us ⟨nx, rt, bk, ct⟩ σ H := k
theorem s_cut (M : L2.St → Hp → Prop) (h : ts ⟨M, rt, bk, ct⟩ σ H) (k : ∀ ρ H', M ρ H' → us ⟨nx, rt, bk, ct⟩ ρ H') : Evl.tCut ts us ⟨nx, rt, bk, ct⟩ σ H := ⟨M, h, k⟩
theorem s_drop (k : te σ H fun _ H1 => nx σ H1) : tDrop te ⟨nx, rt, bk, ct⟩ σ H := k
theorem s_ret (k : te σ H rt) : tRet te ⟨nx, rt, bk, ct⟩ σ H := k
theorem s_ifS (k : t σ H fun b H1 => if b = true then ts ⟨nx, rt, bk, ct⟩ σ H1 else us ⟨nx, rt, bk, ct⟩ σ H1) : tIfS t ts us ⟨nx, rt, bk, ct⟩ σ H := k
theorem s_set (k : te σ H fun x H1 => nx (σ.set i (some x)) H1) : tAsg te (gName i) ⟨nx, rt, bk, ct⟩ σ H := k
theorem s_asg {g : TG} (k : te σ H fun x H1 => g x σ H1 nx) : tAsg te g ⟨nx, rt, bk, ct⟩ σ H := k
theorem s_par {tr : TA} (k : tr σ H fun vs H1 => ∃ v w, vs = [v, w] ∧ nx ((σ.set i (some v)).set j (some w)) H1) : tPar i j tr ⟨nx, rt, bk, ct⟩ σ H := k
theorem s_parI {v w : V} {R : V → V → Prop} (k : R v w) : ∃ v' w', [v, w] = [v', w'] ∧ R v' w' := ⟨v, w, rfl, k⟩
theorem s_gName {R : L2.St → Hp → Prop} (k : R (σ.set i (some v)) H) : gName i v σ H R := k
theorem s_gSub {tS : TSet} {R : L2.St → Hp → Prop} (k : ta σ H fun o H1 => tb σ H1 fun i H2 => tS o i v H2 fun H3 => R σ H3) : gSub ta tb tS v σ H R := k
theorem s_gTup {n : Nat} {tg : TGs} {a : Addr} {xs : List V} {R : L2.St → Hp → Prop} (h : SqT K H a xs) (hn : xs.length = n) (k : tg xs σ H R) : gTup K n tg (.ref a) σ H R := ⟨a, xs, rfl, h, hn, k⟩
theorem s_gCons {tg : TG} {tgs : TGs} {xs : List V} {R : L2.St → Hp → Prop} (k : tg v σ H fun σ1 H1 => tgs xs σ1 H1 R) : gCons tg tgs (v :: xs) σ H R := ⟨v, xs, rfl, k⟩
theorem s_gNil {R : L2.St → Hp → Prop} (k : R σ H) : gNil [] σ H R := ⟨rfl, k⟩
theorem s_tup {tr : TA} (k : tr σ H fun xs H1 => xs.length ≤ sizeLine ∧ NewO (.tup xs) H1 Q) : tTup tr σ H Q := k
theorem s_lst {tr : TA} (k : tr σ H fun xs H1 => xs.length ≤ sizeLine ∧ NewO (.lst xs) H1 Q) : tLst tr σ H Q := k
theorem s_ixL {p : Addr} {xs : List V} {a : Int} (h : SqL K H p xs) (e : atI xs a = some v) (k : Q v H) : rIxL K (.ref p) (.int a) H Q := ⟨p, xs, a, v, rfl, rfl, h, e, k⟩
theorem s_ixT {p : Addr} {xs : List V} {a : Int} (h : SqT K H p xs) (e : atI xs a = some v) (k : Q v H) : rIxT K (.ref p) (.int a) H Q := ⟨p, xs, a, v, rfl, rfl, h, e, k⟩
theorem s_slL {a : Addr} {xs : List V} {lo hi : Option Int} (h : SqL K H a xs) (k : NewO (.lst (cutV xs lo hi)) H Q) : rSlL K (.ref a) lo hi H Q := ⟨a, xs, rfl, h, k⟩
theorem s_slS {z : Str} {lo hi : Option Int} (h : z.length ≤ sizeLine) (k : Q (.str (cutS z lo hi)) H) : rSlS (.str z) lo hi H Q := ⟨z, rfl, h, k⟩
/-! ifs -/
theorem ite_both {c : Bool} {A B : Prop} (h1 : c = true → A) (h2 : c = false → B) : if c = true then A else B := by
  cases c with
  | true => rw [if_pos rfl]; exact h1 rfl
  | false => rw [if_neg (by decide)]; exact h2 rfl
theorem ite_dec {p A B : Prop} {ip : Decidable p} (h1 : p → A) (h2 : ¬ p → B) : if decide p = true then A else B :=
  ite_both (fun h => h1 (of_decide_eq_true h)) (fun h => h2 (of_decide_eq_false h))
theorem ite_ndec {p A B : Prop} {ip : Decidable p} (h1 : ¬ p → A) (h2 : p → B) : if (!decide p) = true then A else B :=
  ite_both (fun h => h1 (by simpa using h)) (fun h => h2 (by simpa using h))
theorem ite_t {A B : Prop} (h : A) : if true = true then A else B := by rw [if_pos rfl]; exact h
theorem ite_f {A B : Prop} (h : B) : if false = true then A else B := by rw [if_neg (by decide)]; exact h
theorem ite_pos {p A B : Prop} {ip : Decidable p} (hp : p) (h : A) : if decide p = true then A else B := by rw [if_pos (decide_eq_true hp)]; exact h
theorem ite_neg {p A B : Prop} {ip : Decidable p} (hp : ¬ p) (h : B) : if decide p = true then A else B := by rw [if_neg (by simpa using hp)]; exact h
theorem ite_npos {p A B : Prop} {ip : Decidable p} (hp : ¬ p) (h : A) : if (!decide p) = true then A else B := by rw [if_pos (by simpa using hp)]; exact h
theorem ite_nneg {p A B : Prop} {ip : Decidable p} (hp : p) (h : B) : if (!decide p) = true then A else B := by rw [if_neg (by simpa using hp)]; exact h
/-! loops -/
/-- the loop's word, said for any walk: J, its turns n, G what stands still, Y what it yields -/
def Loops (J : It) (g : TG) (ts : TS) (nx : L2.St → Hp → Prop) (rt : VK) (σ : L2.St) (H : Hp) : Prop := ∃ W : Nat → Nat → L2.St → Hp → Prop, (∃ m, W 0 m σ H) ∧ ∀ i m σ H, W i m σ H →
      (J.stop i H ∧ nx σ H) ∨ (J.go i H ∧ ∃ N : L2.St → Hp → Prop, (∀ σ' H', N σ' H' → ∃ m', m' < m ∧ W (i + 1) m' σ' H') ∧ ∀ x H', J.yld i H x H' → g x σ H' fun σ2 H2 => ts ⟨N, rt, nx, N⟩ σ2 H2)
theorem s_for {wi : TI} {g : TG} (k : wi σ H fun J H1 => Loops J g ts nx rt σ H1) : tFor wi g ts ⟨nx, rt, bk, ct⟩ σ H := k
theorem s_iRng1 {tr : TA} {R : It → Hp → Prop} (k : tr σ H fun vs H1 => ∃ j : Int, vs = [.int j] ∧ -(2 ^ 62) ≤ j ∧ j < 2 ^ 62 ∧ R (Itr 0 j.toNat) H1) : iRng1 tr σ H R := k
theorem s_iRng2 {tr : TA} {R : It → Hp → Prop} (k : tr σ H fun vs H1 => ∃ i j : Int, vs = [.int i, .int j] ∧ (-(2 ^ 62) ≤ i ∧ i < 2 ^ 62 ∧ -(2 ^ 62) ≤ j ∧ j < 2 ^ 62) ∧ R (Itr i (j - i).toNat) H1) : iRng2 tr σ H R := k
theorem s_iList {R : It → Hp → Prop} (k : te σ H fun x H1 => ∃ a, x = .ref a ∧ (∃ xs, SqL K H1 a xs) ∧ R (Itl K a) H1) : iList K te σ H R := k
theorem s_iTup {R : It → Hp → Prop} (k : te σ H fun x H1 => ∃ a, x = .ref a ∧ (∃ xs, SqT K H1 a xs) ∧ R (Itt K a) H1) : iTup K te σ H R := k
theorem s_iStr {R : It → Hp → Prop} (k : te σ H fun v H1 => ∃ x, v = .str x ∧ R (Its x) H1) : iStr te σ H R := k
theorem s_iEnum {tr : TA} {R : It → Hp → Prop} (k : tr σ H fun vs H1 => ∃ a xs, vs = [.ref a] ∧ SqL K H1 a xs ∧ R (Ite K a) H1) : iEnum K tr σ H R := k
theorem loops_of {J : It} {n : Nat} {G : Hp → Prop} {Y : Nat → Hp → V → Hp → Prop} {g : TG} (w : Walk J n G Y) (Pv : Nat → L2.St → Hp → Prop) (h0 : Pv 0 σ H) (hG : ∀ i σ H, i ≤ n → Pv i σ H → G H)
    (hs : ∀ i x σ H H', i < n → Pv i σ H → Y i H x H' → g x σ H' fun σ2 H2 => ts ⟨Pv (i + 1), rt, nx, Pv (i + 1)⟩ σ2 H2) (hd : ∀ σ H, Pv n σ H → nx σ H) : Loops J g ts nx rt σ H :=
  for_it (D := ⟨nx, rt, fun _ _ => False, fun _ _ => False⟩) w Pv h0 hG hs hd
/-- range(n), as it stands behind the arguments -/
theorem l_range {g : TG} {n : Int} (b : -(2 ^ 62) ≤ n ∧ n < 2 ^ 62) (Pv : Nat → L2.St → Hp → Prop) (h0 : Pv 0 σ H)
    (hs : ∀ (i : Nat) σ H, (i : Int) < n → Pv i σ H → g (.int (i : Int)) σ H fun σ2 H2 => ts ⟨Pv (i + 1), rt, nx, Pv (i + 1)⟩ σ2 H2) (hd : ∀ σ H, Pv n.toNat σ H → nx σ H) :
    ∃ j : Int, [V.int n] = [.int j] ∧ -(2 ^ 62) ≤ j ∧ j < 2 ^ 62 ∧ Loops (Itr 0 j.toNat) g ts nx rt σ H :=
  ⟨n, rfl, b.1, b.2, loops_of walk_range Pv h0 (fun _ _ _ _ _ => trivial) (fun i x σ H H' hi p y => by
    obtain ⟨e, y⟩ := y
    subst e y
    have e0 : (0 : Int) + (i : Int) = (i : Int) := Int.zero_add _
    dsimp only
    rw [e0]
    exact hs i σ _ (by omega) p) hd⟩
/-- range(lo, hi) -/
theorem l_range2 {g : TG} {lo n : Int} (b : -(2 ^ 62) ≤ lo ∧ lo < 2 ^ 62 ∧ -(2 ^ 62) ≤ n ∧ n < 2 ^ 62) (Pv : Nat → L2.St → Hp → Prop) (h0 : Pv 0 σ H)
    (hs : ∀ (i : Nat) σ H, lo + (i : Int) < n → Pv i σ H → g (.int (lo + (i : Int))) σ H fun σ2 H2 => ts ⟨Pv (i + 1), rt, nx, Pv (i + 1)⟩ σ2 H2) (hd : ∀ σ H, Pv (n - lo).toNat σ H → nx σ H) :
    ∃ i j : Int, [V.int lo, V.int n] = [.int i, .int j] ∧ (-(2 ^ 62) ≤ i ∧ i < 2 ^ 62 ∧ -(2 ^ 62) ≤ j ∧ j < 2 ^ 62) ∧ Loops (Itr i (j - i).toNat) g ts nx rt σ H :=
  ⟨lo, n, rfl, b, loops_of walk_range Pv h0 (fun _ _ _ _ _ => trivial) (fun i x σ H H' hi p y => by
    obtain ⟨e, y⟩ := y
    subst e y
    exact hs i σ _ (by omega) p) hd⟩
/-- a list -/
theorem l_list {g : TG} {a : Addr} (xs : List V) (Pv : Nat → L2.St → Hp → Prop) (h0 : Pv 0 σ H) (hG : ∀ i σ H, i ≤ xs.length → Pv i σ H → SqL K H a xs)
    (hs : ∀ i x σ H, xs[i]? = some x → Pv i σ H → g x σ H fun σ2 H2 => ts ⟨Pv (i + 1), rt, nx, Pv (i + 1)⟩ σ2 H2) (hd : ∀ σ H, Pv xs.length σ H → nx σ H) :
    ∃ a', V.ref a = .ref a' ∧ (∃ xs, SqL K H a' xs) ∧ Loops (Itl K a') g ts nx rt σ H :=
  ⟨a, rfl, ⟨xs, hG 0 σ H (Nat.zero_le _) h0⟩, loops_of walk_list Pv h0 hG (fun i x σ H H' hi p y => by
    obtain ⟨e, y⟩ := y
    subst e
    exact hs i x σ _ y p) hd⟩
/-- a tuple -/
theorem l_tup {g : TG} {a : Addr} (xs : List V) (Pv : Nat → L2.St → Hp → Prop) (h0 : Pv 0 σ H) (hG : ∀ i σ H, i ≤ xs.length → Pv i σ H → SqT K H a xs)
    (hs : ∀ i x σ H, xs[i]? = some x → Pv i σ H → g x σ H fun σ2 H2 => ts ⟨Pv (i + 1), rt, nx, Pv (i + 1)⟩ σ2 H2) (hd : ∀ σ H, Pv xs.length σ H → nx σ H) :
    ∃ a', V.ref a = .ref a' ∧ (∃ xs, SqT K H a' xs) ∧ Loops (Itt K a') g ts nx rt σ H :=
  ⟨a, rfl, ⟨xs, hG 0 σ H (Nat.zero_le _) h0⟩, loops_of walk_tup Pv h0 hG (fun i x σ H H' hi p y => by
    obtain ⟨e, y⟩ := y
    subst e
    exact hs i x σ _ y p) hd⟩
end

/-! ### heaps -/
/-- all but what stands at b -/
def Fr (b : Addr) (H H' : Hp) : Prop := ∀ a o, a ≠ b → H a = some o → H' a = some o
theorem Ex.refl {H : Hp} : Ex H H := fun _ _ h => h
theorem Ex.trans {H H1 H2 : Hp} (a : Ex H H1) (b : Ex H1 H2) : Ex H H2 := fun x o h => b x o (a x o h)
theorem Ex.mut {H H' : Hp} {p : Addr} {o : HO} (e : Ex H H') (h : H p = none) : Ex H (upd H' p o) := fun a u ha => by
  rw [upd_ne (ne_of_none ha h)]
  exact e a u ha
theorem Ex.back {H H' : Hp} {p : Addr} (e : Ex H H') (h : H' p = none) : H p = none := by
  cases h1 : H p with
  | none => rfl
  | some o =>
    rw [e p o h1] at h
    cases h
theorem Ex.fr {H H' : Hp} (b : Addr) (e : Ex H H') : Fr b H H' := fun a o _ h => e a o h
theorem Fr.refl {b : Addr} {H : Hp} : Fr b H H := fun _ _ _ h => h
theorem Fr.trans {b : Addr} {H H1 H2 : Hp} (x : Fr b H H1) (y : Fr b H1 H2) : Fr b H H2 := fun a o n h => y a o n (x a o n h)
theorem Fr.upd {b : Addr} {H : Hp} {o : HO} : Fr b H (upd H b o) := fun a u n h => by
  rw [upd_ne n]
  exact h
theorem Ex.sqL {K : PySem.W.Frag} {H H' : Hp} {a : Addr} {xs : List V} (e : Ex H H') (h : SqL K H a xs) : SqL K H' a xs := by
  rcases h with (h | ⟨o, h⟩) | h
  · exact .inl (.inl (e _ _ h))
  · exact .inl (.inr ⟨o, e _ _ h⟩)
  · exact .inr h
theorem Ex.sqT {K : PySem.W.Frag} {H H' : Hp} {a : Addr} {xs : List V} (e : Ex H H') (h : SqT K H a xs) : SqT K H' a xs := by
  rcases h with (h | ⟨o, h⟩) | h
  · exact .inl (.inl (e _ _ h))
  · exact .inl (.inr ⟨o, e _ _ h⟩)
  · exact .inr h
theorem sqL_ex {K : PySem.W.Frag} {H H' : Hp} {a : Addr} {xs : List V} (h : SqL K H a xs) (e : Ex H H') : SqL K H' a xs := e.sqL h
theorem sqT_ex {K : PySem.W.Frag} {H H' : Hp} {a : Addr} {xs : List V} (h : SqT K H a xs) (e : Ex H H') : SqT K H' a xs := e.sqT h
theorem ex_at {H H' : Hp} {a : Addr} {o : HO} (e : Ex H H') (h : H a = some o) : H' a = some o := e a o h
theorem fr_at {b : Addr} {H H' : Hp} {a : Addr} {o : HO} (e : Fr b H H') (n : a ≠ b) (h : H a = some o) : H' a = some o := e a o n h
theorem upd_at {H : Hp} {a b : Addr} {o u : HO} (n : b ≠ a) (h : H b = some u) : upd H a o b = some u := by
  rw [upd_ne n]
  exact h
/-! ### readings by name -/
def rLen (K : PySem.W.Frag) : List V → Hp → VK → Prop := fun xs H Q => ∃ p ys, xs = [.ref p] ∧ (SqL K H p ys ∨ SqT K H p ys) ∧ Q (.int ys.length) H
def rLenStr : List V → Hp → VK → Prop := fun xs H Q => ∃ z, xs = [.str z] ∧ z.length ≤ sizeLine ∧ Q (.int z.length) H
def rAbs : List V → Hp → VK → Prop := fun xs H Q => ∃ i, xs = [.int i] ∧ Q (.int (if i < 0 then -i else i)) H
def rMax2 : List V → Hp → VK → Prop := fun xs H Q => ∃ i j, xs = [.int i, .int j] ∧ Q (.int (if j > i then j else i)) H
def rMin2 : List V → Hp → VK → Prop := fun xs H Q => ∃ i j, xs = [.int i, .int j] ∧ Q (.int (if j < i then j else i)) H
def rInt1 : List V → Hp → VK → Prop := fun xs H Q => (∃ i, xs = [.int i] ∧ Q (.int i) H) ∨ ∃ k, xs = [.bl k] ∧ Q (.int (if k then 1 else 0)) H
def rStrInt : List V → Hp → VK → Prop := fun xs H Q => ∃ i : Int, xs = [.int i] ∧ i.natAbs.log2 < 1920 ∧ Q (.str (toString i)) H
def rListOf (K : PySem.W.Frag) : List V → Hp → VK → Prop := fun xs H Q => ∃ p ys, xs = [.ref p] ∧ (SqL K H p ys ∨ SqT K H p ys) ∧ ∀ l, H l = none → Q (.ref l) (upd H l (.lst ys))
def rTupleOf (K : PySem.W.Frag) : List V → Hp → VK → Prop := fun xs H Q => ∃ p ys, xs = [.ref p] ∧ ((SqL K H p ys ∧ ∀ l, H l = none → Q (.ref l) (upd H l (.tup ys))) ∨ (SqT K H p ys ∧ Q (.ref p) H))
def rDivmod : List V → Hp → VK → Prop := fun xs H Q => ∃ i j, xs = [.int i, .int j] ∧ CDiv i j ∧ ∀ p, H p = none → Q (.ref p) (upd H p (.tup [.int (i / j), .int (i % j)]))
def rAddStr : R2 := fun x y H Q => ∃ i j, x = .str i ∧ y = .str j ∧ i.length + j.length ≤ sizeLine ∧ Q (.str (i ++ j)) H
def rFind : V → List V → Hp → VK → Prop := fun x xs H Q => ∃ a b, x = .str a ∧ xs = [.str b] ∧ Q (.int (Txt.find a b)) H
def rRjust : V → List V → Hp → VK → Prop := fun x xs H Q => ∃ (a : Str) (i : Int), x = .str a ∧ xs = [.int i] ∧ PadOk i = true ∧ Q (.str (Txt.rjust a i)) H
section
variable {X : Cx}
theorem cz_len : CallR X (.builtin "len") (rLen X.K) := call_len_seq
theorem cz_lenStr : CallR X (.builtin "len") rLenStr := call_len_str
theorem cz_int1 : CallR X (.type "int") rInt1 := call_int1
theorem cz_strInt : CallR X (.type "str") rStrInt := call_str_int
theorem cz_listOf : CallR X (.type "list") (rListOf X.K) := call_list_of
theorem cz_tupleOf : CallR X (.type "tuple") (rTupleOf X.K) := call_tuple_of
theorem oz_addStr : OpR X (binaryOp .Add) rAddStr := op_add_str
def rRjust2 : V → List V → Hp → VK → Prop := fun x xs H Q => ∃ (a f : Str) (i : Int), x = .str a ∧ xs = [.int i, .str f] ∧ (PadOk i = true ∧ f.length = 1) ∧ Q (.str (Txt.rjustF a i (f.cps.getD 0 0))) H
def rJoin (K : PySem.W.Frag) : V → List V → Hp → VK → Prop := fun x xs H Q => ∃ a p, ∃ ys : List Str, x = .str a ∧ xs = [.ref p] ∧ (SqL K H p (ys.map V.str) ∨ SqT K H p (ys.map V.str)) ∧
      (ys.map (·.length)).sum + ys.length * a.length ≤ 16777216 ∧ Q (.str (Txt.join a ys)) H
theorem mz_join : MtR X "str.join" (rJoin X.K) := mt_join
def rMulS : R2 := fun x y H Q => ∃ (a : Str) (n : Int), x = .str a ∧ y = .int n ∧ MulOk a n ∧ Q (.str (Txt.mul a n)) H
theorem oz_mulS : OpR X (binaryOp .Mult) rMulS := by
  intro pins s σ H x y v u Q I rx ry h
  obtain ⟨a, n, rfl, rfl, hc, h⟩ := h
  obtain ⟨t, rfl⟩ := rx
  obtain ⟨z, rfl⟩ := ry
  exact PySem.SB.mul hc fun t' k => ⟨V.str (Txt.mul a n), H, I.tok k, ⟨t', rfl⟩, h⟩
def tFS (ts : List TE) : TE := fun σ H Q => tJs ts Str.empty σ H fun out H1 => Q (.str out) H1
theorem pz_fstr {v1 v2 : Expr} {rest : List Expr} {ts : List TE} {pos : Pos} (h : PJ X (v1 :: v2 :: rest) ts) : PE X (.JoinedStr (v1 :: v2 :: rest) pos) (tFS ts) := pe_joined h
end
section
variable {K : PySem.W.Frag} {H : Hp} {Q : VK} {x : V}
theorem s_tyS {z : Str} {R : Prop} (k : R) : tyV K "str" (.str z) H ∧ R := ⟨by show "str" = "str"; rfl, k⟩
theorem s_tyL {a : Addr} {xs : List V} {R : Prop} (h : SqL K H a xs) (k : R) : tyV K "list" (.ref a) H ∧ R := ⟨.inl ⟨rfl, _, h⟩, k⟩
theorem s_rLen {p : Addr} {xs : List V} (h : SqL K H p xs ∨ SqT K H p xs) (k : Q (.int xs.length) H) : rLen K [.ref p] H Q := ⟨p, xs, rfl, h, k⟩
theorem s_rLenStr {z : Str} (h : z.length ≤ sizeLine) (k : Q (.int z.length) H) : rLenStr [.str z] H Q := ⟨z, rfl, h, k⟩
theorem s_rAbs {i : Int} (k : Q (.int (if i < 0 then -i else i)) H) : rAbs [.int i] H Q := ⟨i, rfl, k⟩
theorem s_rMax2 {i j : Int} (k : Q (.int (if j > i then j else i)) H) : rMax2 [.int i, .int j] H Q := ⟨i, j, rfl, k⟩
theorem s_rMin2 {i j : Int} (k : Q (.int (if j < i then j else i)) H) : rMin2 [.int i, .int j] H Q := ⟨i, j, rfl, k⟩
theorem s_rInt1 {i : Int} (k : Q (.int i) H) : rInt1 [.int i] H Q := .inl ⟨i, rfl, k⟩
theorem s_rIntB {c : Bool} (k : Q (.int (if c then 1 else 0)) H) : rInt1 [.bl c] H Q := .inr ⟨c, rfl, k⟩
theorem s_rStrInt {i : Int} (h : i.natAbs.log2 < 1920) (k : Q (.str (toString i)) H) : rStrInt [.int i] H Q := ⟨i, rfl, h, k⟩
theorem s_rListOf {p : Addr} {xs : List V} (h : SqL K H p xs ∨ SqT K H p xs) (k : NewO (.lst xs) H Q) : rListOf K [.ref p] H Q := ⟨p, xs, rfl, h, k⟩
theorem s_rTupleOf {p : Addr} {xs : List V} (h : SqL K H p xs) (k : NewO (.tup xs) H Q) : rTupleOf K [.ref p] H Q := ⟨p, xs, rfl, .inl ⟨h, k⟩⟩
theorem s_rDivmod {i j : Int} (h : CDiv i j) (k : NewO (.tup [.int (i / j), .int (i % j)]) H Q) : rDivmod [.int i, .int j] H Q := ⟨i, j, rfl, h, k⟩
theorem s_rAddStr {a b : Str} (h : a.length + b.length ≤ sizeLine) (k : Q (.str (a ++ b)) H) : rAddStr (.str a) (.str b) H Q := ⟨a, b, rfl, rfl, h, k⟩
theorem s_rFind {a b : Str} (k : Q (.int (Txt.find a b)) H) : rFind (.str a) [.str b] H Q := ⟨a, b, rfl, rfl, k⟩
theorem s_rJoin {a : Str} {p : Addr} {xs : List V} (ys : List Str) (h : SqL K H p xs ∨ SqT K H p xs) (e : xs = ys.map V.str) (z : (ys.map (·.length)).sum + ys.length * a.length ≤ 16777216) (k : Q (.str (Txt.join a ys)) H) : rJoin K (.str a) [.ref p] H Q := ⟨a, p, ys, rfl, rfl, by rw [← e]; exact h, z, k⟩
def RevV (K : PySem.W.Frag) (x : V) (H : Hp) (Q : VK) : Prop := ∃ a xs, x = .ref a ∧ SqL K H a xs ∧ ∀ p, H p = none → Q (.ref p) (upd H p (.lst xs.reverse))
theorem s_tRevL {te : TE} {σ : L2.St} (k : te σ H fun x H1 => RevV K x H1 Q) : tRevL K te σ H Q := k
theorem s_revV {a : Addr} {xs : List V} (h : SqL K H a xs) (k : NewO (.lst xs.reverse) H Q) : RevV K (.ref a) H Q := ⟨a, xs, rfl, h, k⟩
theorem s_app {l : Addr} {xs : List V} {y : V} (h : H l = some (.lst xs)) (z : xs.length < sizeLine) (k : ∀ H', Fr l H H' → H' l = some (.lst (xs ++ [y])) → Q .non H') : rAppend (.ref l) [y] H Q := ⟨l, xs, y, rfl, rfl, h, z, k _ Fr.upd upd_same⟩
theorem s_rRjust2 {a f : Str} {i : Int} (h : PadOk i = true ∧ f.length = 1) (k : Q (.str (Txt.rjustF a i (f.cps.getD 0 0))) H) : rRjust2 (.str a) [.int i, .str f] H Q := ⟨a, f, i, rfl, rfl, h, k⟩
theorem s_rRjust {a : Str} {i : Int} (h : PadOk i = true) (k : Q (.str (Txt.rjust a i)) H) : rRjust (.str a) [.int i] H Q := ⟨a, i, rfl, rfl, h, k⟩
theorem s_rAll {K : PySem.W.Frag} {p : Addr} (bs : List Bool) {xs : List V} (h : SqL K H p xs) (e : xs = bs.map V.bl) (k : Q (.bl (bs.all id)) H) : rAll K [.ref p] H Q := ⟨p, bs, rfl, by rw [← e]; exact h, k⟩
theorem s_rMulS {a : Str} {n : Int} (h : MulOk a n) (k : Q (.str (Txt.mul a n)) H) : rMulS (.str a) (.int n) H Q := ⟨a, n, rfl, rfl, h, k⟩
def FmtV (x : V) (H : Hp) (Q : VK) : Prop := (∃ y : Str, x = .str y ∧ y.length ≤ sizeLine ∧ Q (.str y) H) ∨ ∃ i : Int, x = .int i ∧ i.natAbs.log2 < 1920 ∧ Q (.str (toString i)) H
def JsV (x : V) (acc : Str) (ts : List TE) (σ : L2.St) (H : Hp) (R : Str → Hp → Prop) : Prop := ∃ y : Str, x = .str y ∧ (acc ++ y).length ≤ sizeLine ∧ tJs ts (acc ++ y) σ H R
theorem s_tFmt {te : TE} {σ : L2.St} (k : te σ H fun x H1 => FmtV x H1 Q) : tFmt te σ H Q := k
theorem s_fmtS {y : Str} (h : y.length ≤ sizeLine) (k : Q (.str y) H) : FmtV (.str y) H Q := .inl ⟨y, rfl, h, k⟩
theorem s_fmtI {i : Int} (h : i.natAbs.log2 < 1920) (k : Q (.str (toString i)) H) : FmtV (.int i) H Q := .inr ⟨i, rfl, h, k⟩
theorem s_tFS {ts : List TE} {σ : L2.St} (k : tJs ts Str.empty σ H fun out H1 => Q (.str out) H1) : tFS ts σ H Q := k
theorem s_jsNil {acc : Str} {σ : L2.St} {R : Str → Hp → Prop} (k : R acc H) : tJs [] acc σ H R := k
theorem s_jsCons {t : TE} {ts : List TE} {acc : Str} {σ : L2.St} {R : Str → Hp → Prop} (k : t σ H fun x H1 => JsV x acc ts σ H1 R) : tJs (t :: ts) acc σ H R := k
theorem s_jsV {y acc : Str} {ts : List TE} {σ : L2.St} {R : Str → Hp → Prop} (h : (acc ++ y).length ≤ sizeLine) (k : tJs ts (acc ++ y) σ H R) : JsV (.str y) acc ts σ H R := ⟨y, rfl, h, k⟩
theorem s_rNotInS {c : Nat} {z : Str} (k : Q (.bl (!decide (c ∈ z.cps.toList))) H) : rNotInS (.str ⟨#[c]⟩) (.str z) H Q := ⟨c, z, rfl, rfl, k⟩
theorem s_rInS {c : Nat} {z : Str} (k : Q (.bl (decide (c ∈ z.cps.toList))) H) : rInS (.str ⟨#[c]⟩) (.str z) H Q := ⟨c, z, rfl, rfl, k⟩
theorem s_catA {K : PySem.W.Frag} {a b : Addr} {xs ys : List V} (h1 : SqT K H a xs) (h2 : SqT K H b ys) (hx : xs ≠ []) (hy : ys ≠ []) (hz : xs.length + ys.length ≤ sizeLine) (k : NewO (.tup (xs ++ ys)) H Q) : rCatA K (.ref a) (.ref b) H Q :=
  ⟨a, b, xs, ys, rfl, rfl, h1, h2, hz, fun e => absurd e hx, fun _ e => absurd e hy, fun _ _ => k⟩
theorem s_rInSeq {K : PySem.W.Frag} {p : Addr} {xs : List V} (h : SqL K H p xs ∨ SqT K H p xs) (f1 : flatV x = true) (f2 : xs.all flatV = true) (k : Q (.bl (inV x xs)) H) : rIn K false x (.ref p) H Q := ⟨p, xs, rfl, h, f1, f2, k⟩
theorem s_rIsN (k : Q (.bl (decide (x = .non))) H) : rIsN x .non H Q := ⟨rfl, k⟩
theorem s_rNotN (k : Q (.bl (!decide (x = .non))) H) : rNotN x .non H Q := ⟨rfl, k⟩
end

/-! ### texts as their codes -/
def T (l : List Nat) : Str := ⟨l.toArray⟩
theorem at0 {α : Type} (c : α) (r : List α) : atI (c :: r) (0 : Int) = some c := atI_nat (xs := c :: r) (j := 0) rfl
theorem at_ex {α : Type} (l : List α) {z : Int} (h0 : 0 ≤ z) (h1 : z < l.length) : ∃ c, atI l z = some c := by
  obtain ⟨n, rfl⟩ : ∃ n : Nat, z = n := ⟨z.toNat, by omega⟩
  exact ⟨l[n]'(by omega), atI_nat (List.getElem?_eq_getElem (by omega))⟩
/-- an item at an open place: what is true of all items -/
theorem s_ixP {K : PySem.W.Frag} {p : Addr} {xs : List V} {z : Int} {H : Hp} {Q : VK} (P : V → Prop) (h : SqL K H p xs) (hz : 0 ≤ z ∧ z < xs.length) (hP : ∀ v ∈ xs, P v) (k : ∀ v, P v → Q v H) : rIxL K (.ref p) (.int z) H Q := by
  obtain ⟨v, hv⟩ := at_ex xs hz.1 hz.2
  obtain ⟨j, _, hj, _⟩ := atI_get hv
  exact ⟨p, xs, z, v, rfl, rfl, h, hv, k v (hP v (List.mem_of_getElem? hj))⟩
/-- an item at an open place: what is true of all items -/
theorem s_ixPT {K : PySem.W.Frag} {p : Addr} {xs : List V} {z : Int} {H : Hp} {Q : VK} (P : V → Prop) (h : SqT K H p xs) (hz : 0 ≤ z ∧ z < xs.length) (hP : ∀ v ∈ xs, P v) (k : ∀ v, P v → Q v H) : rIxT K (.ref p) (.int z) H Q := by
  obtain ⟨v, hv⟩ := at_ex xs hz.1 hz.2
  obtain ⟨j, _, hj, _⟩ := atI_get hv
  exact ⟨p, xs, z, v, rfl, rfl, h, hv, k v (hP v (List.mem_of_getElem? hj))⟩
theorem s_ixS {z : Str} {a : Int} {c : Nat} {H : Hp} {Q : VK} (hz : z.length ≤ sizeLine) (e : atI z.cps.toList a = some c) (k : Q (.str ⟨#[c]⟩) H) : rIxS (.str z) (.int a) H Q := ⟨z, a, c, rfl, rfl, hz, e, k⟩
/-! ### new objects -/
theorem sz {n : Nat} (h : n ≤ 100000) : n ≤ sizeLine := Nat.le_trans h (by decide)
theorem szl {n : Nat} (h : n ≤ 100000) : n < sizeLine := Nat.lt_of_le_of_lt h (by decide)

theorem s_setN {H : Hp} {v : V} {p : Addr} {xs : List V} {a : Int} {m : Nat} {R : Hp → Prop} (h : H p = some (.lst xs)) (e : ixN xs.length a = some m) (ys : List V) (hy : xs.set m v = ys) (k : ∀ H', Fr p H H' → H' p = some (.lst ys) → R H') : rSetL (.ref p) (.int a) v H R :=
  ⟨p, xs, a, m, rfl, rfl, h, e, by rw [hy]; exact k _ Fr.upd upd_same⟩
/-! ### the drawing bag -/
structure Bag (H : Hp) (b c : Addr) : Prop where
  ex : ∃ (cells : List Int) (i : Nat) (big salt : Int), H b = some (.lst [.ref c, .int i, .int big, .int salt]) ∧ H c = some (.lst (cells.map V.int)) ∧ i ≤ cells.length ∧ 0 ≤ big ∧ 0 ≤ salt ∧ salt < 2147483647
theorem bag_ne {H : Hp} {b c : Addr} {xs : List V} {cells : List Int} (h1 : H b = some (.lst (.ref c :: xs))) (h2 : H c = some (.lst (cells.map V.int))) : c ≠ b := by
  intro e
  subst e
  rw [h1] at h2
  injection h2 with h2
  injection h2 with h2
  cases cells with
  | nil => cases h2
  | cons y ys => injection h2 with h2; cases h2
theorem Bag.getb {H : Hp} {b c : Addr} (B : Bag H b c) : ∃ xs, H b = some (.lst xs) := by
  obtain ⟨_, _, _, _, h, _⟩ := B.ex
  exact ⟨_, h⟩
theorem Bag.getc {H : Hp} {b c : Addr} (B : Bag H b c) : ∃ xs, H c = some (.lst xs) := by
  obtain ⟨_, _, _, _, _, h, _⟩ := B.ex
  exact ⟨_, h⟩
theorem Bag.neb {H : Hp} {b c p : Addr} (B : Bag H b c) (h : H p = none) : p ≠ b := by
  obtain ⟨_, q⟩ := B.getb
  exact (ne_of_none q h).symm
theorem Bag.nec {H : Hp} {b c p : Addr} (B : Bag H b c) (h : H p = none) : p ≠ c := by
  obtain ⟨_, q⟩ := B.getc
  exact (ne_of_none q h).symm
theorem neb_of {H : Hp} {b c p : Addr} (h : H p = none) (B : Bag H b c) : p ≠ b := B.neb h
theorem nec_of {H : Hp} {b c p : Addr} (h : H p = none) (B : Bag H b c) : p ≠ c := B.nec h
theorem Bag.cb {H : Hp} {b c : Addr} (B : Bag H b c) : c ≠ b := by
  obtain ⟨_, _, _, _, h1, h2, _⟩ := B.ex
  exact bag_ne h1 h2
theorem Bag.ext {H H' : Hp} {b c : Addr} (B : Bag H b c) (e : Ex H H') : Bag H' b c := by
  obtain ⟨cells, i, big, salt, h1, h2, r⟩ := B.ex
  exact ⟨cells, i, big, salt, e _ _ h1, e _ _ h2, r⟩
theorem Bag.frs {H H' : Hp} {b c D : Addr} (B : Bag H b c) (n1 : D ≠ b) (n2 : D ≠ c) (e : Fr D H H') : Bag H' b c := by
  obtain ⟨cells, i, big, salt, h1, h2, r⟩ := B.ex
  exact ⟨cells, i, big, salt, e _ _ n1.symm h1, e _ _ n2.symm h2, r⟩
theorem Bag.mk' {H : Hp} {b c : Addr} {cells : List Int} {i : Nat} {big salt : Int} (h1 : H b = some (HO.lst [.ref c, .int i, .int big, .int salt])) (h2 : H c = some (HO.lst (cells.map V.int))) (h3 : i ≤ cells.length) (h4 : 0 ≤ big) (h5 : 0 ≤ salt ∧ salt < 2147483647) : Bag H b c :=
  ⟨cells, i, big, salt, h1, h2, h3, h4, h5.1, h5.2⟩
def spPull : Sp := fun vs H Q _ => ∃ (b c : Addr) (n : Int), vs = [.ref b, .int n] ∧ Bag H b c ∧ 0 < n ∧ n < 2 ^ 200 ∧ ∀ z H', 0 ≤ z → z < n → Bag H' b c → Fr b H H' → Q (.int z) H'
def spBag (K : PySem.W.Frag) : Sp := fun vs H Q _ => ∃ (a : Addr) (ns : List Int), vs = [.ref a] ∧ SqL K H a (ns.map V.int) ∧ ns.length ≤ 63 ∧ ∀ b c H', H b = none → H c = none → Ex H H' → Bag H' b c → Q (.ref b) H'
theorem use_pull {H : Hp} {b c : Addr} {n : Int} {Q : VK} {E : XK} (B : Bag H b c) (h : 0 < n ∧ n < 2 ^ 200) (k : ∀ z H', 0 ≤ z → z < n → Bag H' b c → Fr b H H' → Q (.int z) H') : spPull ([.ref b, .int n] ++ []) H Q E :=
  ⟨b, c, n, rfl, B, h.1, h.2, k⟩

/-! ### what cannot change: the heap without the addresses that may -/
theorem cut63 {xs : List V} (h : xs.length ≤ 63) : cutV xs none (some 63) = xs := by
  unfold cutV
  have e : HT.sIx xs.length xs.length (some 63) = xs.length := by
    rw [show (63 : Int) = ((63 : Nat) : Int) from rfl, HT.sIx_nat]
    omega
  rw [HT.sIx_none, e]
  simp
theorem map_int_get {ns : List Int} {i : Nat} {x : V} (h : (ns.map V.int)[i]? = some x) : ∃ y, x = V.int y := by
  rw [List.getElem?_map] at h
  cases e : ns[i]? with
  | none => rw [e] at h; cases h
  | some y => rw [e] at h; exact ⟨y, (Option.some.inj h).symm⟩
/-! ### comprehensions -/
def LcW (J : It) (g : TG) (tt : TT) (te : TE) (vs : List Nat) (σ : L2.St) (H1 : Hp) (Q : VK) : Prop := ∀ D, H1 D = none → ∃ W : Nat → Nat → Hp → Prop, (∃ m, W 0 m (upd H1 D (.lst []))) ∧ ∀ i m H, W i m H →
  (J.stop i H ∧ Q (.ref D) H) ∨ (J.go i H ∧ ∃ Nx : Hp → Prop, (∀ H', Nx H' → ∃ m', m' < m ∧ W (i + 1) m' H') ∧ ∀ x H', J.yld i H x H' → g x (wipe σ vs) H' fun σ2 H2 => wipe σ2 vs = wipe σ vs ∧ tt σ2 H2 fun b H3 =>
    if b = true then te σ2 H3 fun y H4 => ∃ acc, H4 D = some (.lst acc) ∧ acc.length < sizeLine ∧ Nx (upd H4 D (.lst (acc ++ [y]))) else Nx H3)
theorem s_lc {wi : TI} {g : TG} {tt : TT} {te : TE} {vs : List Nat} {σ : L2.St} {H : Hp} {Q : VK} (k : wi σ H fun J H1 => LcW J g tt te vs σ H1 Q) : tLc wi g tt te vs σ H Q := k
theorem s_yes {σ : L2.St} {H : Hp} {R : Bool → Hp → Prop} (k : R true H) : tYes σ H R := k
/-- between two turns: D holds what has been made -/
def Cv (Iv : Addr → Hp → Prop) (R : Addr → Nat → List V → Hp → Prop) (D : Addr) (i : Nat) (H : Hp) : Prop := ∃ l, Iv D H ∧ H D = some (.lst l) ∧ l.length ≤ i ∧ R D i l H
theorem c_put {Iv : Addr → Hp → Prop} {R : Addr → Nat → List V → Hp → Prop} {D : Addr} {i : Nat} {H4 : Hp} {l : List V} {y : V} (h : H4 D = some (.lst l)) (hz : l.length ≤ i ∧ i < 50000) (k : ∀ H5, Fr D H4 H5 → H5 D = some (.lst (l ++ [y])) → Iv D H5 ∧ R D (i + 1) (l ++ [y]) H5) :
    ∃ acc, H4 D = some (.lst acc) ∧ acc.length < sizeLine ∧ Cv Iv R D (i + 1) (upd H4 D (.lst (acc ++ [y]))) := by
  obtain ⟨a, r⟩ := k _ Fr.upd upd_same
  exact ⟨l, h, szl (by omega), l ++ [y], a, upd_same, by rw [List.length_append, List.length_singleton]; omega, r⟩
theorem c_skip {Iv : Addr → Hp → Prop} {R : Addr → Nat → List V → Hp → Prop} {D : Addr} {i : Nat} {H4 : Hp} {l : List V} (h : H4 D = some (.lst l)) (hz : l.length ≤ i) (a : Iv D H4) (r : R D (i + 1) l H4) : Cv Iv R D (i + 1) H4 := ⟨l, a, h, by omega, r⟩
/-- over any walk: the new list D is held apart; R speaks of what has been made -/
theorem c_it {J : It} {n : Nat} {G : Hp → Prop} {Y : Nat → Hp → V → Hp → Prop} {g : TG} {tt : TT} {te : TE} {vs : List Nat} {σ : L2.St} {H : Hp} {Q : VK} (w : Walk J n G Y) (Iv : Addr → Hp → Prop) (R : Addr → Nat → List V → Hp → Prop)
    (h0 : ∀ D H', H D = none → Ex H H' → H' D = some (.lst []) → Iv D H' ∧ R D 0 [] H') (hG : ∀ D H', Iv D H' → G H')
    (hs : ∀ D i l H1 x H1', i < n → Iv D H1 → H1 D = some (.lst l) → l.length ≤ i → R D i l H1 → Y i H1 x H1' → g x (wipe σ vs) H1' fun σ2 H2 => wipe σ2 vs = wipe σ vs ∧ tt σ2 H2 fun b H3 =>
      if b = true then te σ2 H3 fun y H4 => ∃ acc, H4 D = some (.lst acc) ∧ acc.length < sizeLine ∧ Cv Iv R D (i + 1) (upd H4 D (.lst (acc ++ [y]))) else Cv Iv R D (i + 1) H3)
    (hd : ∀ D l H', Iv D H' → H' D = some (.lst l) → l.length ≤ n → R D n l H' → Q (.ref D) H') : LcW J g tt te vs σ H Q := by
  intro D hD
  refine lc_it w (Cv Iv R D) ?_ (fun i H' _ p => ?_) (fun i x H1 H1' hi p y => ?_) (fun H' p => ?_)
  · obtain ⟨a, b⟩ := h0 D _ hD (Ex.new hD) upd_same
    exact ⟨[], a, upd_same, Nat.le_refl _, b⟩
  · obtain ⟨l, a, _⟩ := p
    exact hG _ _ a
  · obtain ⟨l, a, hl, hz, r⟩ := p
    exact hs D i l H1 x H1' hi a hl hz r y
  · obtain ⟨l, a, hl, hz, r⟩ := p
    exact hd D l H' a hl hz r
theorem c_range {n : Int} {g : TG} {tt : TT} {te : TE} {vs : List Nat} {σ : L2.St} {H : Hp} {Q : VK} (b : -(2 ^ 62) ≤ n ∧ n < 2 ^ 62) (Iv : Addr → Hp → Prop) (R : Addr → Nat → List V → Hp → Prop)
    (h0 : ∀ D H', H D = none → Ex H H' → H' D = some (.lst []) → Iv D H' ∧ R D 0 [] H')
    (hs : ∀ D (i : Nat) l H1, (i : Int) < n → Iv D H1 → H1 D = some (.lst l) → l.length ≤ i → R D i l H1 → g (.int (i : Int)) (wipe σ vs) H1 fun σ2 H2 => wipe σ2 vs = wipe σ vs ∧ tt σ2 H2 fun b H3 =>
      if b = true then te σ2 H3 fun y H4 => ∃ acc, H4 D = some (.lst acc) ∧ acc.length < sizeLine ∧ Cv Iv R D (i + 1) (upd H4 D (.lst (acc ++ [y]))) else Cv Iv R D (i + 1) H3)
    (hd : ∀ D l H', Iv D H' → H' D = some (.lst l) → l.length ≤ n.toNat → R D n.toNat l H' → Q (.ref D) H') :
    ∃ j : Int, [V.int n] = [.int j] ∧ -(2 ^ 62) ≤ j ∧ j < 2 ^ 62 ∧ LcW (Itr 0 j.toNat) g tt te vs σ H Q :=
  ⟨n, rfl, b.1, b.2, c_it walk_range Iv R h0 (fun _ _ _ => trivial) (fun D i l H1 x H1' hi a hl hz r y => by
    obtain ⟨e, y⟩ := y
    subst e y
    have e0 : (0 : Int) + (i : Int) = (i : Int) := Int.zero_add _
    dsimp only
    rw [e0]
    exact hs D i l _ (by omega) a hl hz r) hd⟩
theorem c_list {K : PySem.W.Frag} {a : Addr} {g : TG} {tt : TT} {te : TE} {vs : List Nat} {σ : L2.St} {H : Hp} {Q : VK} (xs : List V) (h : SqL K H a xs) (Iv : Addr → Hp → Prop) (R : Addr → Nat → List V → Hp → Prop)
    (h0 : ∀ D H', H D = none → Ex H H' → H' D = some (.lst []) → Iv D H' ∧ R D 0 [] H') (hG : ∀ D H', Iv D H' → SqL K H' a xs)
    (hs : ∀ D i l H1 x, xs[i]? = some x → Iv D H1 → H1 D = some (.lst l) → l.length ≤ i → R D i l H1 → g x (wipe σ vs) H1 fun σ2 H2 => wipe σ2 vs = wipe σ vs ∧ tt σ2 H2 fun b H3 =>
      if b = true then te σ2 H3 fun y H4 => ∃ acc, H4 D = some (.lst acc) ∧ acc.length < sizeLine ∧ Cv Iv R D (i + 1) (upd H4 D (.lst (acc ++ [y]))) else Cv Iv R D (i + 1) H3)
    (hd : ∀ D l H', Iv D H' → H' D = some (.lst l) → l.length ≤ xs.length → R D xs.length l H' → Q (.ref D) H') :
    ∃ a', V.ref a = .ref a' ∧ (∃ xs, SqL K H a' xs) ∧ LcW (Itl K a') g tt te vs σ H Q :=
  ⟨a, rfl, ⟨xs, h⟩, c_it walk_list Iv R h0 hG (fun D i l H1 x H1' hi a hl hz r y => by
    obtain ⟨e, y⟩ := y
    subst e
    exact hs D i l _ x y a hl hz r) hd⟩
theorem c_tup {K : PySem.W.Frag} {a : Addr} {g : TG} {tt : TT} {te : TE} {vs : List Nat} {σ : L2.St} {H : Hp} {Q : VK} (xs : List V) (h : SqT K H a xs) (Iv : Addr → Hp → Prop) (R : Addr → Nat → List V → Hp → Prop)
    (h0 : ∀ D H', H D = none → Ex H H' → H' D = some (.lst []) → Iv D H' ∧ R D 0 [] H') (hG : ∀ D H', Iv D H' → SqT K H' a xs)
    (hs : ∀ D i l H1 x, xs[i]? = some x → Iv D H1 → H1 D = some (.lst l) → l.length ≤ i → R D i l H1 → g x (wipe σ vs) H1 fun σ2 H2 => wipe σ2 vs = wipe σ vs ∧ tt σ2 H2 fun b H3 =>
      if b = true then te σ2 H3 fun y H4 => ∃ acc, H4 D = some (.lst acc) ∧ acc.length < sizeLine ∧ Cv Iv R D (i + 1) (upd H4 D (.lst (acc ++ [y]))) else Cv Iv R D (i + 1) H3)
    (hd : ∀ D l H', Iv D H' → H' D = some (.lst l) → l.length ≤ xs.length → R D xs.length l H' → Q (.ref D) H') :
    ∃ a', V.ref a = .ref a' ∧ (∃ xs, SqT K H a' xs) ∧ LcW (Itt K a') g tt te vs σ H Q :=
  ⟨a, rfl, ⟨xs, h⟩, c_it walk_tup Iv R h0 hG (fun D i l H1 x H1' hi a hl hz r y => by
    obtain ⟨e, y⟩ := y
    subst e
    exact hs D i l _ x y a hl hz r) hd⟩

/-- the law: a list of at most 63 ints is handed in, True comes out -/
def spLaw (K : PySem.W.Frag) : Sp := fun vs H Q _ => ∃ (a : Addr) (ns : List Int), vs = [.ref a] ∧ SqL K H a (ns.map V.int) ∧ ns.length ≤ 63 ∧ ∀ H', Q (.bl true) H'
theorem exm_self {K : PySem.W.Frag} {S : Addr} (h1 : PySem.W.subIn K (.ref S) (.type "BaseException") = some true) (h2 : PySem.W.isClsIn K S = true) (h3 : PySem.W.typeIn K (.ref S) = some (.type "type")) (h4 : PySem.W.subIn K (.ref S) (.ref S) = some true) :
    PySem.W.exmOne K (.ref S) (.ref S) = some true := by
  have e1 : (PySem.W.subIn K (.ref S) (.type "BaseException") == some true) = true := by rw [h1] <;> rfl
  have e2 : ((PySem.W.clsIn K S).isSome && PySem.W.typeIn K (.ref S) == some (.type "type")) = true := by
    rw [h3]
    have e3 : (PySem.W.clsIn K S).isSome = true := h2
    rw [e3] <;> rfl
  show (if (PySem.W.subIn K (.ref S) (.type "BaseException") == some true) = true then (if ((PySem.W.clsIn K S).isSome && PySem.W.typeIn K (.ref S) == some (.type "type")) = true then PySem.W.subIn K (.ref S) (.ref S) else none) else none) = some true
  rw [if_pos e1, if_pos e2, h4]
theorem Str_len_app (a b : Str) : (a ++ b).length = a.length + b.length := by
  show (a.cps ++ b.cps).size = _
  rw [Array.size_append]
  rfl
theorem s_callS {sp : Sp} {E : L2.St → XK} {tr : TA} {σ : L2.St} {H : Hp} {Q : VK} (k : tr σ H fun vs H1 => sp vs H1 Q (E σ)) : tCallS sp E tr σ H Q := k
/-- a whole number within bounds -/
def R (lo hi n : Int) : Prop := lo ≤ n ∧ n ≤ hi
def IntIn (lo hi : Int) (v : V) : Prop := ∃ n, v = .int n ∧ R lo hi n
theorem intIn_cons {lo hi n : Int} {xs : List V} (h : R lo hi n) (k : ∀ v ∈ xs, IntIn lo hi v) : ∀ v ∈ V.int n :: xs, IntIn lo hi v := fun v hv => by
  rcases List.mem_cons.mp hv with e | hv
  · exact ⟨n, e, h⟩
  · exact k v hv
theorem intIn_nil {lo hi : Int} : ∀ v ∈ ([] : List V), IntIn lo hi v := fun v hv => by cases hv
def spInt (lo hi : Int) : Sp := fun vs H Q _ => ∃ b c : Addr, vs = [.ref b] ∧ Bag H b c ∧ ∀ z H', lo ≤ z → z ≤ hi → Bag H' b c → Fr b H H' → Q (.int z) H'
theorem use_int {lo hi : Int} {H : Hp} {b c : Addr} {Q : VK} {E : XK} (B : Bag H b c) (k : ∀ z H', lo ≤ z → z ≤ hi → Bag H' b c → Fr b H H' → Q (.int z) H') : spInt lo hi ([.ref b] ++ []) H Q E := ⟨b, c, rfl, B, k⟩
/-! ### kinds -/
theorem kb_int_tuple : kitB "int" "tuple" = some false := by decide +kernel
theorem kb_int_list : kitB "int" "list" = some false := by decide +kernel
theorem kb_int_bool : kitB "int" "bool" = some false := by decide +kernel
theorem kb_int_int : kitB "int" "int" = some true := by decide +kernel
theorem kb_str_tuple : kitB "str" "tuple" = some false := by decide +kernel
theorem kb_str_list : kitB "str" "list" = some false := by decide +kernel
theorem kb_str_bool : kitB "str" "bool" = some false := by decide +kernel
theorem kb_str_int : kitB "str" "int" = some false := by decide +kernel
theorem kb_bool_tuple : kitB "bool" "tuple" = some false := by decide +kernel
theorem kb_bool_list : kitB "bool" "list" = some false := by decide +kernel
theorem kb_bool_bool : kitB "bool" "bool" = some true := by decide +kernel
theorem kb_bool_int : kitB "bool" "int" = some true := by decide +kernel
theorem kb_NoneType_tuple : kitB "NoneType" "tuple" = some false := by decide +kernel
theorem kb_NoneType_list : kitB "NoneType" "list" = some false := by decide +kernel
theorem kb_NoneType_bool : kitB "NoneType" "bool" = some false := by decide +kernel
theorem kb_NoneType_int : kitB "NoneType" "int" = some false := by decide +kernel
theorem kb_tuple_tuple : kitB "tuple" "tuple" = some true := by decide +kernel
theorem kb_tuple_list : kitB "tuple" "list" = some false := by decide +kernel
theorem kb_tuple_bool : kitB "tuple" "bool" = some false := by decide +kernel
theorem kb_tuple_int : kitB "tuple" "int" = some false := by decide +kernel
theorem kb_list_tuple : kitB "list" "tuple" = some false := by decide +kernel
theorem kb_list_list : kitB "list" "list" = some true := by decide +kernel
theorem kb_list_bool : kitB "list" "bool" = some false := by decide +kernel
theorem kb_list_int : kitB "list" "int" = some false := by decide +kernel

section
variable {K : PySem.W.Frag} {H H' : Hp} {Q : VK} {x v : V}
theorem ty_sqL {a : Addr} {xs : List V} (h : SqL K H a xs) : TyX K H (.ref a) (.type "list") := by
  rcases h with (h | ⟨o, h⟩) | ⟨o, its, n, h, c, _⟩
  · exact .base (.lst h)
  · exact .base (.frz h)
  · exact .kList h c
theorem ty_sqT {a : Addr} {xs : List V} (h : SqT K H a xs) : TyX K H (.ref a) (.type "tuple") := by
  rcases h with (h | ⟨o, h⟩) | ⟨o, its, n, h, c, _⟩
  · exact .base (.tup h)
  · exact .fTuple h
  · exact .kTuple h c
theorem s_isi {n m : String} {b : Bool} (ty : TyX K H x (.type n)) (e : kitB n m = some b) (k : Q (.bl b) H) : rIsi K [x, .ty m] H Q := ⟨x, .ty m, .type n, .type m, b, rfl, .ty m, ty, kit_ty e, k⟩
theorem s_isiTL {n : String} {b c : Bool} {tp : Addr} (h : H tp = some (.tup [.ty "tuple", .ty "list"])) (ty : TyX K H x (.type n)) (e : kitB n "tuple" = some b) (e' : kitB n "list" = some c) (k : Q (.bl (b || c)) H) : rIsiT K [x, .ref tp] H Q := by
  refine ⟨x, tp, _, .type n, [.type "tuple", .type "list"], _, rfl, h, .cons (.ty _) (.cons (.ty _) .nil), ty, ?_, k⟩
  cases b with
  | true => exact kitAny_cons (kit_ty e) (fun z => by cases z) (fun _ => rfl)
  | false =>
    refine kitAny_cons (kit_ty e) (fun _ => ?_) (fun z => by cases z)
    cases c with
    | true => exact kitAny_cons (kit_ty e') (fun z => by cases z) (fun _ => rfl)
    | false => exact kitAny_cons (kit_ty e') (fun _ => kitAny_nil) (fun z => by cases z)
end

/-! ### data -/
mutual
theorem dp_ex {K : PySem.W.Frag} {H H' : Hp} (e : Ex H H') : ∀ {v : V} {d : PyData}, Dp K H v d → Dp K H' v d
  | _, _, .non => .non
  | _, _, .bl b => .bl b
  | _, _, .int i => .int i
  | _, _, .str x => .str x
  | _, _, .lst h r => .lst (Ex.sqL e h) (dpAll_ex e r)
  | _, _, .tup h r => .tup (Ex.sqT e h) (dpAll_ex e r)
theorem dpAll_ex {K : PySem.W.Frag} {H H' : Hp} (e : Ex H H') : ∀ {vs : List V} {ds : List PyData}, DpAll K H vs ds → DpAll K H' vs ds
  | _, _, .nil => .nil
  | _, _, .cons h r => .cons (dp_ex e h) (dpAll_ex e r)
end
theorem dpAll_len {K : PySem.W.Frag} {H : Hp} : ∀ {vs : List V} {ds : List PyData}, DpAll K H vs ds → vs.length = ds.length
  | _, _, .nil => rfl
  | _, _, .cons _ r => congrArg Nat.succ (dpAll_len r)
theorem dpAll_get {K : PySem.W.Frag} {H : Hp} : ∀ {vs : List V} {ds : List PyData} {i : Nat} {v : V} {d : PyData}, DpAll K H vs ds → vs[i]? = some v → ds[i]? = some d → Dp K H v d
  | _, _, _, _, _, .nil, h, _ => by cases h
  | _, _, 0, _, _, .cons h _, e1, e2 => by
    cases e1
    cases e2
    exact h
  | _, _, i + 1, _, _, .cons _ r, e1, e2 => dpAll_get (i := i) r (by simpa using e1) (by simpa using e2)
/-- data of a bounded depth, its sequences bounded -/
def DOk : Nat → PyData → Prop
  | 0, _ => False
  | n + 1, .list ds => ds.length ≤ 1000 ∧ ∀ d ∈ ds, DOk n d
  | n + 1, .tuple ds => ds.length ≤ 1000 ∧ ∀ d ∈ ds, DOk n d
  | _ + 1, .dict _ => False
  | _ + 1, _ => True
def spLike (K : PySem.W.Frag) (n : Nat) : Sp := fun vs H Q _ => ∃ x y d, vs = [x, y] ∧ Dp K H x d ∧ Dp K H y d ∧ DOk n d ∧ ∀ H', Ex H H' → Q (.bl true) H'
theorem fnOk_no {P : Program} {w : World} {K : PySem.W.Frag} {mg : Str → Option Value} {base : Heap} {CX : CXT} {k : Nat} {f : Addr} {fd : FuncData} {ps : List Str} {sp : Sp} (h : ∀ vs H Q E, sp vs H Q E → False) : FnOk P w K mg base CX k f fd ps sp :=
  ⟨fun vs H Q E q => (h _ _ _ _ q).elim, fun _ _ _ _ _ _ _ _ _ _ _ _ _ q => (h _ _ _ _ q).elim⟩
theorem like_no {K : PySem.W.Frag} : ∀ vs H Q E, spLike K 0 vs H Q E → False := fun vs H Q E h => by
  obtain ⟨x, y, d, _, _, _, ok, _⟩ := h
  exact ok
theorem ite_tE {c : Bool} {A B : Prop} (h : c = true) (k : A) : if c = true then A else B := by rw [if_pos h]; exact k
theorem ite_fE {c : Bool} {A B : Prop} (h : c = false) (k : B) : if c = true then A else B := by rw [h]; exact ite_f k
theorem ev_blT {c : Bool} {Q : VK} {H : Hp} (h : c = true) (k : Q (.bl true) H) : Q (.bl c) H := by rw [h]; exact k
end Z

set_option Elab.async false
set_option linter.all false
set_option maxRecDepth 100000
namespace Z
open PySem L2
/-! a display with a star -/
def tStarT (K : PySem.W.Frag) (te : TE) (tr : TA) : TA := fun σ H Q => te σ H fun x H1 => ∃ a us, x = .ref a ∧ SqT K H1 a us ∧ tr σ H1 fun vs H2 => Q (us ++ vs) H2
theorem pa_starT {X : Cx} {e : Expr} {es : List Expr} {te : TE} {t : TA} {p : Pos} (he : PE X e te) (hr : PA X es t) (hs : starEach (.Starred e p :: es) X.env = (true, eval e X.env) :: starEach es X.env := by rfl) : PA X (.Starred e p :: es) (tStarT X.K te t) := by
  refine ⟨fun pos pins s σ H Q I h => ?_⟩
  refine PySem.W.items_star (thn (he.run pins s σ H _ I h) fun u s1 ⟨x, H1, I1, r1, a, us, ex, ha, q⟩ => ?_) hs
  subst ex
  obtain rfl : u = Value.ref a := r1
  exact star_tup I1 ha fun ws s2 I2 rw' => thn (hr.run pos pins s2 σ H1 _ I2 q) fun zs s3 ⟨vs, H2, I3, r2, q2⟩ => ⟨us ++ vs, H2, I3, rw'.append r2, q2⟩
theorem s_star {K : PySem.W.Frag} {te : TE} {tr : TA} {σ : L2.St} {H : Hp} {Q : List V → Hp → Prop} (h : te σ H fun x H1 => ∃ a us, x = .ref a ∧ SqT K H1 a us ∧ tr σ H1 fun vs H2 => Q (us ++ vs) H2) : tStarT K te tr σ H Q := h
/-! a target of several names, its library part named -/
theorem pg_tupK {X : Cx} {K : PySem.W.Frag} {es : List Expr} {k : Nat} {t : TGs} (n : Nat) {pos : Pos} (hK : X.K = K) (hc : X.calm = true) (h : PGs X es t)
    (hn : (assignEach es X.env).length = n := by rfl) (hst : (assignEach es X.env).findIdx? (·.1) = none := by rfl) : PG X (.Tuple es k pos) (gTup K n t) := by
  subst hK
  exact pg_tup hc h hn hst
/-! t > u, tuples of ints -/
/-! set of a list of ints -/
section
open PySem.Spec PyProof.Rows
variable {P : Program} {w : World} {A : Around}
theorem set_upd {R : Result → Shared → Prop} {J : Addr} {fp wr : List Addr} {G : Array GenState → Array GenState → Prop} {n : Nat} {T : Nat → Value → Prop} {Z : Nat → Shared → Prop}
    (W : WalksS P w A.in1 J fp wr G n T Z) (a : Addr) (ha : a ∉ fp) (ns : List Int) (en : ns.length = n) (ht : ∀ i v, T i v → ∃ t, v = .int (ns.getD i 0) t) (room : n + 1 < scanBound) :
    ∀ (k i m : Nat) (s : Shared) (S : Int → Bool), n - i = k → i ≤ n → Z i s → SetR w s.heap a S m → m ≤ i → (∀ x, S x = true ↔ x ∈ ns.take i) →
      (∀ s' S' m', Moved (a :: wr) G s s' → SetR w s'.heap a S' m' → m' ≤ n → (∀ x, S' x = true ↔ x ∈ ns) → R (.ok (.ret .none)) s') →
      codeAny (model P w) A (.builtin "set.update.loop" ⟨[.ref a, .ref J], []⟩) R s
  | 0, i, m, s, S, hk, hi, hz, hS, hm, hx, hR => by
    obtain rfl : i = n := by omega
    refine codeAny_builtin PyProof.Rows.F.entry_set_update_loop ?_
    rw [PySem.Around.under_plainId PyProof.Rows.F.plain_set_update_loop _]
    refine wpAny_bind (m := pyNext (.ref J)) (W.done s _ _ hz fun s' mv => ?_)
    refine wpAny_pure (hR s' S m (mv.mono fun b hb => List.mem_cons_of_mem _ hb) (hS.at fun o e => mv.heap a _ (fun z => ha (W.sub _ z)) e) hm fun x => ?_)
    rw [hx, ← en, List.take_length]
  | k + 1, i, m, s, S, hk, hi, hz, hS, hm, hx, hR => by
    have lt : i < n := by omega
    have sb : ∀ b ∈ wr, b ∈ a :: wr := fun b hb => List.mem_cons_of_mem _ hb
    refine codeAny_builtin PyProof.Rows.F.entry_set_update_loop ?_
    rw [PySem.Around.under_plainId PyProof.Rows.F.plain_set_update_loop _]
    refine wpAny_bind (m := pyNext (.ref J)) (W.item i s _ _ lt hz fun v s' hv hz' mv => ?_)
    obtain ⟨t, rfl⟩ := ht i v hv
    have hS' : SetR w s'.heap a S m := hS.at fun o e => mv.heap a _ (fun z => ha (W.sub _ z)) e
    show wpAny _ A.in1 (holding [Value.int (ns.getD i 0) t] (setAdd a (.int (ns.getD i 0) t)) >>= _) _ _ s'
    refine wpAny_bind (wpAny_holding ?_)
    unfold setAdd
    refine wpAny_holding (wpAny_bind ((intKind P w).pyHash (intKind_is P w (ns.getD i 0) t) ?_))
    refine setR_add_hashed (s := { s' with toks := s'.toks + 1 }) hS' (by omega) fun h' hb hS2 => ?_
    refine wpAny_pure ⟨plainId_quiet PyProof.Rows.F.plain_set_update_loop _, set_upd W a ha ns en ht room k (i + 1) _ _ _ (by omega) lt (W.frame _ s' _ _ hz' (Nat.le_succ _) fun b hb' o e => ?_) hS2 (by split <;> omega) (fun x => ?_) fun s2 S2 m2 mv2 hS3 hm3 hx3 => ?_⟩
    · rw [hb.2 b (fun h : b = a => ha (by rw [← h]; exact hb'))]
      exact e
    · rw [Bool.or_eq_true, decide_eq_true_eq, hx x, List.take_succ, List.mem_append, List.getElem?_eq_getElem (by omega), Option.toList_some, List.mem_singleton, List.getD_eq_getElem?_getD, List.getElem?_eq_getElem (by omega), Option.getD_some]
    · refine hR s2 S2 m2 (Moved.trans W.gtrans ((mv.mono sb).then_heap (Nat.le_succ _) fun b o hb' e => ?_) mv2) hS3 hm3 hx3
      rw [hb.2 b (fun h : b = a => hb' (by rw [h]; exact List.mem_cons_self))]
      exact e
theorem set_new1 {E : Value → Shared → Prop} {s : Shared} (a : Value) {Q : Value → Shared → Prop}
    (h : Q (.ref s.heap.objs.size) { s with heap := s.heap.push { cls := .type "set", dict := none, data := .set #[] 0 (.fresh 0 0 (!w.params.followText "set-order")) } }) :
    codeAny (model P w) A (.call (.builtin "set.__new__") ⟨[.type "set", a], []⟩) (wants Q E) s := by
  refine codeAny_of_tree ?_
  refine wpAny_bind (m := checkBuiltinCall "set.__new__" _) (wpAny_of_eq (PySem.F.newCall_set_1 a) (wpAny_pure ⟨plainId_quiet F.plain_set_new _, codeAny_builtin F.entry_set_new ?_⟩))
  rw [PySem.Around.under_plainId F.plain_set_new _]
  unfold Builtin.«set.__new__» Builtin.Frozenset.newClass
  have sub := sub_set_self
  obtain ⟨hp, g, d, tk, os⟩ := s
  dsimp only
  wp_walk
  refine wpAny_askSetting (wpAny_pure ?_)
  simp only [newObj]
  exact wpAny_bind (wpAny_alloc (wpAny_pure (wpAny_pure h)))
end
def rSetL (w : World) (K : PySem.W.Frag) : List V → Hp → VK → Prop := fun xs H Q => ∃ (a : Addr) (ns : List Int), xs = [V.ref a] ∧ SqL K H a (ns.map V.int) ∧ ns.length + 1 < scanBound ∧ ∀ p S m, H p = none → m ≤ ns.length → (∀ x, S x = true ↔ x ∈ ns) → Q (.ref p) (upd H p (SetO w p S m))
theorem s_sortedSet {w : World} {H : Hp} {Q : VK} {a : Addr} {S : Int → Bool} {m : Nat} (ha : H a = some (SetO w a S m)) (room : m < 64) (k : ∀ (ns : List Int) p H', ns.Pairwise (· < ·) → (∀ x : Int, x ∈ ns ↔ S x = true) → ns.length = m → H p = none → Ex H H' → H' p = some (.lst (ns.map V.int)) → Q (.ref p) H') : rSortedSet w [.ref a] H Q :=
  ⟨a, S, m, rfl, ha, room, fun ns p h1 h2 h3 hp => k ns p _ h1 h2 h3 hp (Ex.new hp) upd_same⟩
end Z

set_option Elab.async false
set_option linter.all false
set_option maxRecDepth 100000
namespace Z
open PySem L2
/-! instances of an own class: ==, !=, str, repr by their own methods -/
section
open PySem.W PyProof.Rows
variable {P : Program} {w : World} {A : Around} {E : Value → Shared → Prop} {s : Shared} {K : Frag} {x C L f : Addr} {h0 : Heap} {m : Str → Option Value} {ox : Obj} {od : Option Obj} {b tb : Value}
end
section
variable {X : Cx} {n : Nat} {pins : List (Addr × Obj)} {σ : L2.St} {H : Hp} {s : Shared} {A : Around} {CX : CXT} {f : Addr} {fd : FuncData} {ps : List Str} {sp : Sp} {E : XK} {C a : Addr}
end
end Z
namespace Z
open PySem L2
theorem kit_self {K : PySem.W.Frag} {C : Addr} : PySem.W.kitOne K (.ref C) (.ref C) = some true := by
  unfold PySem.W.kitOne
  rw [if_pos (by simp)]
/-! making one -/
theorem s_make {C : Addr} {sp : Sp} {dvs : List V} {E : XK} {t : TA} {σ : L2.St} {H : Hp} {Q : VK} (k : t σ H fun vs H1 => ∀ x dx, H1 x = none → H1 dx = none → dx ≠ x →
    sp (.ref x :: (vs ++ dvs)) (upd (upd H1 dx (.own x)) x (.ins C dx [])) (fun v H2 => v = .non ∧ Q (.ref x) H2) E) : tMake C sp dvs E t σ H Q := k
end Z

set_option Elab.async false
set_option linter.all false
set_option maxRecDepth 100000
namespace Z
open PySem L2
/-! x in a list, by the items' own == -/
section
open PySem.SeqAt PySem.SeqRoads2 PySem.MeetsSeq AutoSeq1 PyProof.Rows
variable {P : Program} {w : World} {A : Around}
end
section
variable {X : Cx} {n : Nat} {CX : CXT} {f C : Addr} {fd : FuncData} {ps : List Str} {sp : Sp} {E : XK} {Rl : Addr → Addr → Hp → Bool → Prop}
end
end Z

set_option Elab.async false
set_option linter.all false
set_option maxRecDepth 100000
namespace Z
open PySem L2
/-! set of a tuple of ints -/
section
open PySem.Spec PyProof.Rows
variable {P : Program} {w : World} {A : Around}
set_option maxHeartbeats 4000000 in
theorem set_callT {E : Value → Shared → Prop} {s : Shared} {l : Addr} {its : Array Value} {ns : List Int} {Q : Value → Shared → Prop}
    (calm : A.handled = none) (hl : s.heap.IsTuple l its) (hi : IntsAre its.toList ns) (room : its.size + 1 < scanBound)
    (h : ∀ (h' : Heap) (tk : Nat) (S : Int → Bool) (m : Nat), SetR w h' s.heap.objs.size S m → m ≤ ns.length → (∀ x, S x = true ↔ x ∈ ns) → (∀ b o, s.heap.get? b = some o → h'.get? b = some o) → Q (.ref s.heap.objs.size) { s with heap := h', toks := tk }) :
    wpAny (model P w) A (call (.type "set") [.ref l]) Q E s := by
  obtain ⟨c, tl, cm⟩ := F.called_set.mro
  have c1 := F.called_set.made
  have c2 := F.called_set.sub
  refine wpAny_call (codeAny_of_tree ?_)
  show wpAny _ _ (callAny (.type "set") _) _ _ _
  refine wpAny_pure ⟨Code.quiet_builtin _ (by decide +kernel), codeAny_builtin F.entry_type_call ?_⟩
  rw [PySem.Around.under_plain (weight_type_call_type "set" [.ref l] []) rfl]
  have c3 := F.called_set.notType
  have c4 := F.called_set.canCreate
  have c5 := PySem.F.typeCall_set_1 (.ref l)
  repeat (any_goals (first | assumption | wp_step))
  generalize eO : (!w.params.followText "set-order") = led
  refine codeAny_mono (set_new1 (.ref l) (E := E) (Q := fun v s1 => v = .ref s.heap.objs.size ∧ s1 = { s with heap := s.heap.push { cls := .type "set", dict := none, data := .set #[] 0 (.fresh 0 0 led) } }) (by rw [eO]; exact ⟨rfl, rfl⟩)) fun r s1 hr => ?_
  cases r with
  | error e => exact hr
  | ok fl =>
    cases fl with
    | ret v =>
      obtain ⟨rfl, rfl⟩ := hr
      have hO : (s.heap.push { cls := .type "set", dict := none, data := .set #[] 0 (.fresh 0 0 led) }).get? s.heap.objs.size = some { cls := .type "set", dict := none, data := .set #[] 0 (.fresh 0 0 led) } := Heap.get?_push_size _ rfl
      have hT : Shared.TypeIs { s with heap := s.heap.push { cls := .type "set", dict := none, data := .set #[] 0 (.fresh 0 0 led) } } (.ref s.heap.objs.size) "set" := ⟨_, hO, rfl⟩
      have c6 := F.called_set.init.lookup
      have c7 := F.called_set.init.bind (.ref s.heap.objs.size)
      have hR0 : SetR w (s.heap.push { cls := .type "set", dict := none, data := .set #[] 0 (.fresh 0 0 led) }) s.heap.objs.size (fun _ => false) 0 := by
        rw [← eO]
        exact setR_fresh w
      repeat (any_goals (first | assumption | wp_step))
      refine codeAny_mono (codeAny_call_builtin (R := wants (fun r s2 => r = .none ∧ ∃ h' tk S m, s2 = { s with heap := h', toks := tk } ∧ SetR w h' s.heap.objs.size S m ∧ m ≤ ns.length ∧ (∀ x, S x = true ↔ x ∈ ns) ∧ (∀ b o, s.heap.get? b = some o → h'.get? b = some o)) E)
        F.called_set.init.plain F.entry_set_init (PySem.check_set_init_1 hT ?_)) fun r2 s2 hr2 => ?_
      · obtain ⟨⟨oc, od, oo, os⟩, g1, g2, nl, g3⟩ := hl
        simp only at g2 g3
        subst g2
        subst g3
        have g4 : (s.heap.push { cls := .type "set", dict := none, data := .set #[] 0 (.fresh 0 0 led) }).get? l = some { cls := .type "tuple", dict := od, data := .seq its nl, slots := os } := Heap.get?_push_of_some _ g1
        have n1 := PySem.F.sub_tuple_set
        have n2 := PySem.F.sub_tuple_frozenset
        have n3 : (Value.type "tuple" == Value.type "dict") = false := by decide
        have g5 : (s.heap.push { cls := .type "set", dict := none, data := .set #[] 0 (.fresh 0 0 led) }).IsTuple l its := ⟨_, g4, rfl, nl, rfl⟩
        unfold Builtin.«set.__init__» noKeywords Builtin.Frozenset.updateFrom
        generalize hPI : pyIter = PI
        wp_walk
        subst hPI
        refine wpAny_pyIter_tuple g5 ?_
        refine wpAny_bind (wpAny_runValue ?_)
        have lt : l < s.heap.objs.size := Heap.lt_size g1
        have calm3 : A.in1.in1.in1.handled = none := by simp [calm]
        have ne1 : l ≠ (s.heap.push { cls := .type "set", dict := none, data := .set #[] 0 (.fresh 0 0 led) }).objs.size := by
          rw [Heap.size_push]
          exact Nat.ne_of_lt (Nat.lt_succ_of_lt lt)
        have ne2 : s.heap.objs.size ∉ [(s.heap.push { cls := .type "set", dict := none, data := .set #[] 0 (.fresh 0 0 led) }).objs.size, l] := by
          rw [Heap.size_push]
          simp only [List.mem_cons, List.mem_singleton, List.not_mem_nil, or_false, not_or]
          exact ⟨Nat.ne_of_lt (Nat.lt_succ_self _), Nat.ne_of_gt lt⟩
        refine set_upd ((Walks.tuple calm3 _ l ne1 its).toS) s.heap.objs.size ne2 ns (by rw [← hi.length, Array.length_toList]) (fun i v hv => PyProof.Rows.IntsAre.int_at hi i v (by rw [Array.getElem?_toList]; exact hv)) room (its.size - 0) 0 0 _ _ (by omega) (Nat.zero_le _)
          ⟨⟨_, Heap.get?_push_size _ rfl, rfl, rfl⟩, g5.push _⟩ (hR0.at fun o e => Heap.get?_push_of_some _ e) (Nat.le_refl _) (fun x => by simp) fun s' S' m' mv hS hm hx => ?_
        obtain ⟨h', g', d', tk', os'⟩ := s'
        obtain rfl : g' = s.gens := mv.gens
        obtain rfl : d' = s.drawn := mv.drawn
        obtain rfl : os' = s.os := mv.os
        refine wpAny_pure (wpAny_pure ⟨rfl, h', tk', S', m', rfl, hS, by rw [← hi.length, Array.length_toList]; exact hm, hx, fun b o e => ?_⟩)
        have b1 := Heap.lt_size e
        refine mv.heap b o ?_ (Heap.get?_push_of_some _ (Heap.get?_push_of_some _ e))
        rw [Heap.size_push]
        simp only [List.mem_cons, List.mem_singleton, List.not_mem_nil, or_false, not_or]
        exact ⟨Nat.ne_of_lt b1, Nat.ne_of_lt (Nat.lt_succ_of_lt b1)⟩
      · cases r2 with
        | error e => exact hr2
        | ok fl2 =>
          cases fl2 with
          | ret r =>
            obtain ⟨rfl, h', tk, S, m, rfl, q1, q2, q3, q4⟩ := hr2
            repeat (any_goals (first | assumption | wp_step))
            exact h _ _ _ _ q1 q2 q3 q4
          | _ => exact hr2.elim
    | _ => exact hr.elim
end
def rSetT (w : World) (K : PySem.W.Frag) : List V → Hp → VK → Prop := fun xs H Q => ∃ (a : Addr) (ns : List Int), xs = [V.ref a] ∧ SqT K H a (ns.map V.int) ∧ ns.length + 1 < scanBound ∧ ∀ p S m, H p = none → m ≤ ns.length → (∀ x, S x = true ↔ x ∈ ns) → Q (.ref p) (upd H p (SetO w p S m))
theorem cr_setT {X : Cx} (hc : X.calm = true) : CallR X (.type "set") (rSetT X.w X.K) := by
  intro pins s σ H xs us Q I r h
  obtain ⟨a, ns, rfl, ha, room, q⟩ := h
  obtain ⟨its, rv, hl, _⟩ := I.tuple ha
  rw [Vals.ref1 r]
  have hi : PyProof.Rows.IntsAre its ns := Vals.ints rv
  exact set_callT (I.ok.hd hc) hl hi (by rw [List.size_toArray, hi.length]; exact room) fun h' tk S m hS hm hx keep => ⟨.ref _, _, I.laid (t' := tk) keep (Nat.le_refl _) (setO_new hS), rfl, q _ S m (I.hok.fresh (Nat.le_refl _)) hm hx⟩
theorem s_setOfT {w : World} {K : PySem.W.Frag} {H : Hp} {Q : VK} {a : Addr} {ns : List Int} (ha : SqT K H a (ns.map V.int)) (room : ns.length + 1 < scanBound) (k : ∀ p S m H', H p = none → Ex H H' → H' p = some (SetO w p S m) → m ≤ ns.length → (∀ x, S x = true ↔ x ∈ ns) → Q (.ref p) H') : rSetT w K [.ref a] H Q :=
  ⟨a, ns, rfl, ha, room, fun p S m hp h1 h2 => k p S m _ hp (Ex.new hp) upd_same h1 h2⟩
end Z

set_option Elab.async false
set_option linter.all false
set_option maxRecDepth 100000
set_option maxHeartbeats 1000000
namespace Z
open PySem PySem.Builtin.SmallTypes
/-! zip(a, b, strict=True) of two lists of one length -/
section
variable {P : Program} {w : World} {A : Around} {E : Value → Shared → Prop} {s : Shared}
/-! it is made -/
end
end Z
namespace Z
open PySem L2 PyProof.Rows
theorem callTyS {M : Model} {A : Around} {E : Value → Shared → Prop} {s : Shared} {env : Env} {pos : Pos} {T : String} {e : Expr} {es : List Expr} {kws : List Keyword} {Q : Value → Shared → Prop}
    (h : wpAny M A (spliced (backTo pos (starEach (e :: es) env))) (fun vs s1 => wpAny M A (evalAll ((backToKw pos (keywordEach kws env)).map (·.2))) (fun zs s2 => wpAny M A (call (.type T) vs (((backToKw pos (keywordEach kws env)).filterMap (·.1)).zip zs)) Q E s2) E s1) E s)
    (he : backTo pos (starEach (e :: es) env) = (false, eval e env) :: backTo pos (starEach es env) := by rfl) (hp : (backTo pos (starEach (e :: es) env)).any (·.1) = false := by rfl)
    (ha : (backToKw pos (keywordEach kws env)).all (·.1.isSome) = true := by rfl) (hk : (backToKw pos (keywordEach kws env)).any (·.1.isNone) = false := by rfl) :
    wpAny M A (callWith pos (.type T) [] (backTo pos (starEach (e :: es) env)) (backToKw pos (keywordEach kws env))) Q E s := by
  unfold callWith
  have z : wpAny M A (evalArgs (.type T) true (backTo pos (starEach (e :: es) env)) (backToKw pos (keywordEach kws env))) (fun r s1 => wpAny M A (call (.type T) ([] ++ r.pos) r.kw) Q E s1) E s := by
    rw [he] at h ⊢
    exact evalArgs_kwB ha h
  refine wpAny_bind (wpAny_holding (wpAny_mono z (fun r s1 h1 => wpAny_bind (wpAny_standAt ?_)) fun _ _ x => x))
  simp only [hp, hk, Bool.or_false]
  exact wpAny_bind (wpAny_pure (wpAny_bind (wpAny_mono h1 (fun v s2 h2 => wpAny_bind (wpAny_holding (wpAny_point (wpAny_pure h2)))) fun _ _ x => x)))
end Z

set_option Elab.async false
set_option linter.all false
set_option maxRecDepth 100000
set_option maxHeartbeats 1000000
namespace Z
open PySem L2 PyProof.Rows
/-! sorted of a list of tuples of ints, of one length, any number of them -/
section
open SrtO
variable {prog : Program} {w : World} {A : Around} {E : Value → Shared → Prop} {s : Shared}
/-- tuples of d ints, k says which -/
def TupsK (h : Heap) (d : Nat) (k : Value → List Int) (vs : List Value) : Prop := ∀ v ∈ vs, TS.TupInts h v (k v) ∧ (k v).length = d
theorem TupsK.keeps {h h' : Heap} {d : Nat} {k : Value → List Int} {vs : List Value} (x : TupsK h d k vs) (kk : ∀ b o, h.get? b = some o → o.cls = .type "tuple" → h'.get? b = some o) : TupsK h' d k vs := fun v hv => ⟨(x v hv).1.keeps kk, (x v hv).2⟩
end
section
variable {X : Cx}
end
end Z

set_option Elab.async false
set_option linter.all false
set_option maxRecDepth 100000
set_option maxHeartbeats 2000000
namespace Z
open PySem PySem.Spec PyProof.Rows L2 PpSet
/-! {elt for target in iter if ..}: D the new set; O0 how its state begins, Ad how one is put in -/
section
variable {X : Cx}
end
/-! sets of ints -/
/-! sets of tuples of ints -/
end Z

set_option Elab.async false
set_option linter.all false
set_option maxRecDepth 100000
set_option maxHeartbeats 1000000
namespace Z
open PySem L2
/-! dicts by steps, comprehensions of dicts and sets -/
section
variable {K : PySem.W.Frag} {σ : L2.St} {H : Hp} {Q : VK} {nx bk ct : L2.St → Hp → Prop} {rt : VK}
def DGetR (x y : V) (H : Hp) (Q : VK) : Prop := ∃ a v, x = .ref a ∧ DGet H a y (some v) ∧ Q v H
theorem s_tDGet {td ty : TE} (k : td σ H fun x H1 => ty σ H1 fun y H2 => DGetR x y H2 Q) : tDGet td ty σ H Q := k
def DNotInR (y x : V) (H : Hp) (Q : VK) : Prop := ∃ a o, x = .ref a ∧ DGet H a y o ∧ Q (.bl (!o.isSome)) H
theorem s_tDNotIn {td ty : TE} (k : ty σ H fun y H1 => td σ H1 fun x H2 => DNotInR y x H2 Q) : tDNotIn ty td σ H Q := k
/-! {k: v for ..} -/
/-! {x for ..} -/
end
/-! tuples stay where lists, dicts and others change -/
def Tk (K : PySem.W.Frag) (H H' : Hp) : Prop := ∀ (a : Addr) (xs : List V), SqT K H a xs → SqT K H' a xs
theorem Ex.tk {K : PySem.W.Frag} {H H' : Hp} (e : Ex H H') : Tk K H H' := fun _ _ h => e.sqT h
theorem Tk.refl {K : PySem.W.Frag} {H : Hp} : Tk K H H := fun _ _ h => h
theorem Tk.trans {K : PySem.W.Frag} {H H1 H2 : Hp} (a : Tk K H H1) (b : Tk K H1 H2) : Tk K H H2 := fun _ _ h => b _ _ (a _ _ h)
theorem tk_fr {K : PySem.W.Frag} {b : Addr} {o : HO} {H H' : Hp} (e : Fr b H H') (hb : H b = some o) (n1 : ∀ xs, o ≠ .tup xs) (n2 : ∀ q u, o ≠ .frz q u) : Tk K H H' := fun a xs h => by
  have ne : ∀ {u}, H a = some u → u ≠ o → a ≠ b := fun h1 h2 z => by
    subst z
    rw [h1] at hb
    exact h2 (Option.some.inj hb)
  rcases h with (h | ⟨q, h⟩) | h
  · exact .inl (.inl (e _ _ (ne h (fun z => n1 _ z.symm)) h))
  · exact .inl (.inr ⟨q, e _ _ (ne h (fun z => n2 _ _ z.symm)) h⟩)
  · exact .inr h
theorem tk_lst {K : PySem.W.Frag} {b : Addr} {ys : List V} {H H' : Hp} (e : Fr b H H') (hb : H b = some (.lst ys)) : Tk K H H' := tk_fr e hb (fun _ z => by cases z) (fun _ _ z => by cases z)
/-! each of one list is of the other's -/
inductive All2 {α β : Type} (R : α → β → Prop) : List α → List β → Prop
  | nil : All2 R [] []
  | cons {a : α} {b : β} {as : List α} {bs : List β} : R a b → All2 R as bs → All2 R (a :: as) (b :: bs)
namespace All2
variable {α β : Type} {R R' : α → β → Prop}
theorem mono (f : ∀ a b, R a b → R' a b) : ∀ {as : List α} {bs : List β}, All2 R as bs → All2 R' as bs
  | _, _, .nil => .nil
  | _, _, .cons h r => .cons (f _ _ h) (r.mono f)
theorem len : ∀ {as : List α} {bs : List β}, All2 R as bs → as.length = bs.length
  | _, _, .nil => rfl
  | _, _, .cons _ r => congrArg Nat.succ r.len
theorem app : ∀ {as as' : List α} {bs bs' : List β}, All2 R as bs → All2 R as' bs' → All2 R (as ++ as') (bs ++ bs')
  | _, _, _, _, .nil, r => r
  | _, _, _, _, .cons h r, r' => .cons h (r.app r')
theorem snoc {as : List α} {bs : List β} {a : α} {b : β} (h : All2 R as bs) (h1 : R a b) : All2 R (as ++ [a]) (bs ++ [b]) := h.app (.cons h1 .nil)
theorem get : ∀ {as : List α} {bs : List β} {i : Nat} {a : α}, All2 R as bs → as[i]? = some a → ∃ b, bs[i]? = some b ∧ R a b
  | _, _, 0, _, .cons h _, e => by
    cases e
    exact ⟨_, rfl, h⟩
  | _, _, i + 1, _, .cons _ r, e => r.get (i := i) (by simpa using e)
theorem get' : ∀ {as : List α} {bs : List β} {i : Nat} {b : β}, All2 R as bs → bs[i]? = some b → ∃ a, as[i]? = some a ∧ R a b
  | _, _, 0, _, .cons h _, e => by
    cases e
    exact ⟨_, rfl, h⟩
  | _, _, i + 1, _, .cons _ r, e => r.get' (i := i) (by simpa using e)
end All2
end Z

set_option Elab.async false
set_option linter.all false
set_option maxRecDepth 100000
set_option maxHeartbeats 1000000
namespace Z
open PySem L2 PyProof.Rows
/-! sorted of tuples of ints, what each is told beside it -/
def TIs (K : PySem.W.Frag) (H : Hp) (x : V) (k : List Int) : Prop := ∃ t, x = .ref t ∧ SqT K H t (k.map V.int)
theorem TIs.tk {K : PySem.W.Frag} {H H' : Hp} (e : Tk K H H') {x : V} {k : List Int} (h : TIs K H x k) : TIs K H' x k := by
  obtain ⟨t, rfl, h⟩ := h
  exact ⟨t, rfl, e _ _ h⟩
section
variable {X : Cx}
end
/-! a written dict -/
theorem s_kix {K : PySem.W.Frag} {w : World} {p : Addr} {z : Str} {v : V} {H : Hp} {Q : VK} (h : KDct K w p z v) (k : Q v H) : rIxD K w (.ref p) (.str z) H Q := ⟨p, z, v, rfl, rfl, h, k⟩
/-- all that stood stands, but what has changed was not there -/
theorem Ex.fr2 {b : Addr} {H H1 H2 : Hp} (e : Ex H H1) (n : H b = none) (f : Fr b H1 H2) : Ex H H2 := fun a o h => f a o (ne_of_none h n) (e a o h)
end Z

set_option Elab.async false
set_option linter.all false
set_option maxRecDepth 100000
set_option maxHeartbeats 1000000
namespace Z
open PySem L2
/-! fields and methods of own instances by steps -/
theorem u3 {k : Nat} {A : Around} (hr : Room k A) : A.units + 3 < cLine := by have := hr.un; omega

section
variable {K : PySem.W.Frag} {σ : L2.St} {H : Hp} {Q : VK} {nx bk ct : L2.St → Hp → Prop} {rt : VK} {f m : Str} {C a dx : Addr} {fs : List (Str × V)}
theorem s_fldGet {v : V} (h : H a = some (.ins C dx fs)) (c : Cls K C) (na : NoAttr K C f) (e : fs.lookup f = some v) (k : Q v H) : FldR K f (.ref a) H Q := ⟨a, C, dx, fs, v, rfl, h, c, na, e, k⟩
def FldPut (K : PySem.W.Frag) (f : Str) (y x : V) (H : Hp) (R : Hp → Prop) : Prop := ∃ a C dx fs, x = .ref a ∧ H a = some (.ins C dx fs) ∧ Cls K C ∧ NoAttr K C f ∧ fs.length < 1000 ∧ R (upd H a (.ins C dx (putF f y fs)))
theorem s_sFldP {ta tv : TE} (k : tv σ H fun y H1 => ta σ H1 fun x H2 => FldPut K f y x H2 fun H3 => nx σ H3) : sFld K ta tv f ⟨nx, rt, bk, ct⟩ σ H := k
theorem s_fldPut {y : V} {R : Hp → Prop} (gs : List (Str × V)) (h : H a = some (.ins C dx fs)) (c : Cls K C) (na : NoAttr K C f) (z : fs.length < 1000) (e : putF f y fs = gs) (k : ∀ H', Fr a H H' → H' a = some (.ins C dx gs) → R H') : FldPut K f y (.ref a) H R :=
  ⟨a, C, dx, fs, rfl, h, c, na, z, by rw [e]; exact k _ Fr.upd upd_same⟩
theorem s_methA {sp : Sp} {dvs : List V} {E : XK} {ta : TE} {t : TA} (k : ta σ H fun x H1 => ∃ a dx fs, x = .ref a ∧ H1 a = some (.ins C dx fs) ∧ fs.lookup m = none ∧ t σ H1 fun vs H2 => sp (x :: (vs ++ dvs)) H2 Q E) : tMeth C m sp dvs E ta t σ H Q := k
end
end Z

set_option Elab.async false
set_option linter.all false
set_option maxRecDepth 100000
set_option maxHeartbeats 1000000
namespace Z
open PySem PySem.Spec PyProof.Rows L2
section
variable {X : Cx}
end
end Z

set_option Elab.async false
set_option maxRecDepth 100000
set_option maxHeartbeats 4000000
set_option linter.all false
/-! dict(list of pairs), t <= u of two tuples of two ints -/
namespace Z
open PySem L2
end Z

set_option Elab.async false
set_option linter.all false
set_option maxRecDepth 100000
set_option maxHeartbeats 4000000
/-! own exceptions over ValueError and over KeyError whose __init__ says super().__init__ and stores fields -/
namespace PySem
namespace ZEX
open PySem.W PySem.Calls PyProof.Rows PySem.HandSPX
abbrev keTail : List Value := [.type "KeyError", .type "LookupError", .type "Exception", .type "BaseException", .type "object"]
def tailX (b : Bool) : List Value := if b then keTail else veTail
/-- own classes, then the built-in ones of the family -/
def refsX (b : Bool) : List Value → Bool
  | .ref _ :: r => refsX b r
  | l => l == tailX b
theorem refsX_cases (b : Bool) : ∀ l : List Value, refsX b l = true → (∃ c r, l = .ref c :: r ∧ refsX b r = true) ∨ l = tailX b
  | [], e => .inr (beq_iff_eq.mp e)
  | .ref c :: r, e => .inl ⟨c, r, rfl, e⟩
  | .none :: _, e => .inr (beq_iff_eq.mp e)
  | .ellipsis :: _, e => .inr (beq_iff_eq.mp e)
  | .notImplemented :: _, e => .inr (beq_iff_eq.mp e)
  | .bool _ :: _, e => .inr (beq_iff_eq.mp e)
  | .int _ _ :: _, e => .inr (beq_iff_eq.mp e)
  | .float _ _ :: _, e => .inr (beq_iff_eq.mp e)
  | .str _ _ :: _, e => .inr (beq_iff_eq.mp e)
  | .bytes _ _ :: _, e => .inr (beq_iff_eq.mp e)
  | .type _ :: _, e => .inr (beq_iff_eq.mp e)
  | .builtin _ :: _, e => .inr (beq_iff_eq.mp e)
theorem passes_KE (self : Value) : refuseLoop self "__setattr__" keTail = pure () := by kernel_rfl
theorem refsX_nil (b : Bool) : refsX b [] = false := by cases b <;> decide
theorem refsX_pass (b : Bool) (self : Value) : ∀ l : List Value, refsX b l = true → refuseLoop self "__setattr__" l = pure () := by
  intro l
  induction l with
  | nil => intro e; rw [refsX_nil] at e; cases e
  | cons a r ih =>
    intro e
    rcases refsX_cases b (a :: r) e with ⟨c, r', q, h⟩ | q
    · obtain ⟨rfl, rfl⟩ := List.cons.inj q
      rw [refuseLoop_ref]; exact ih h
    · rw [q]
      cases b with
      | false => exact F.store_ValueError.passes self
      | true => exact passes_KE self
theorem refsX_contains (b : Bool) (X : String) : ∀ l : List Value, refsX b l = true → l.contains (.type X) = (tailX b).contains (.type X) := by
  intro l
  induction l with
  | nil => intro e; rw [refsX_nil] at e; cases e
  | cons a r ih =>
    intro e
    rcases refsX_cases b (a :: r) e with ⟨c, r', q, h⟩ | q
    · obtain ⟨rfl, rfl⟩ := List.cons.inj q
      rw [List.contains_cons, ih h]; rfl
    · rw [q]
theorem refsX_ne (b : Bool) {l : List Value} (e : refsX b l = true) : l.isEmpty = false := by
  cases l with
  | nil => rw [refsX_nil] at e; cases e
  | cons _ _ => rfl
def newIdX (b : Bool) : String := if b then "LookupError.__new__" else "ValueError.__new__"
def initIdX (b : Bool) : String := if b then "KeyError.__init__" else "ValueError.__init__"
def baseX (b : Bool) : String := if b then "KeyError" else "ValueError"

/-! ### type.__call__ on such a class -/
section
variable {M : Model} {A : Around} {E : Value → Shared → Prop} {h : Heap} {g : Array GenState} {d : Drawn} {t : Nat} {os : OsState}
variable {nm q : Str} {C N : Addr} {bs bm bmB : List Value} {hdct : Bool} {sn : List Str} {sub : List Value} {ab : Bool} {col : Option Bool} {dd : Option Addr} {k0 k1 k2 k3 k5 : Option Value} {B newId initId : String}
theorem check_newX (F : ExcBaseFacts B newId initId bmB) (hB : bm.contains (.type B) = true) {rest : List Value} {Q : Unit → Shared → Prop}
    (hC : h.get? C = some (excClassObj nm q C N bs bm hdct sn sub ab col dd k0 k1 k2 k3 k5 newId)) (hq : Q () ⟨h, g, d, t, os⟩) : wpAny M A (checkBuiltinCall newId ⟨.ref C :: rest, []⟩) Q E ⟨h, g, d, t, os⟩ := by
  have hcont : (Value.ref C :: bm).contains (.type B) = true := by rw [List.contains_cons, hB, Bool.or_true]
  have hstar := F.noStar
  simp only [checkBuiltinCall, F.newKind, F.newSplit, F.newRow]
  repeat (first | refine wpAny_loadPart_at hC ?_ | (refine wpAny_isSubtype_exc hC ?_; rw [hcont]) | refine wpAny_staticBase_exc hC ?_ | refine wpAny_madeBy_exc hC ?_ | simp only [bne_self_eq_false, Bool.false_eq_true, if_false] | wp_step)
  exact hq
end
section
variable {prog : Program} {w : World} {A : Around} {E : Value → Shared → Prop} {R : Result → Shared → Prop} {h : Heap} {g : Array GenState} {d : Drawn} {t : Nat} {os : OsState}
variable {nm q : Str} {C N : Addr} {bs bm bmB : List Value} {hdct : Bool} {sn : List Str} {sub : List Value} {ab : Bool} {col : Option Bool} {dd : Option Addr} {k0 k1 k2 k3 k5 : Option Value} {B newId initId : String}
theorem newX (F : ExcBaseFacts B newId initId bmB) (hB : bm.contains (.type B) = true) (hA : bm.contains (.type "AttributeError") = false) (hN : bm.contains (.type "NameError") = false) {rest : List Value}
    (hC : h.get? C = some (excClassObj nm q C N bs bm hdct sn sub ab col dd k0 k1 k2 k3 k5 newId))
    (hq : R (.ok (.ret (.ref (h.objs.size + 1)))) ⟨(h.push { cls := .type "tuple", data := .seq rest.toArray }).push
      { cls := .ref C, data := .fields #[.ref h.objs.size, .none, .none, .none, .bool false, .none] }, g, d, t, os⟩) (hrest : rest.length ≤ sizeLine) :
    codeAny (model prog w) A (.builtin newId ⟨.ref C :: rest, []⟩) R ⟨h, g, d, t, os⟩ := by
  have hends := F.ends
  have hcB : (Value.ref C :: bm).contains (.type B) = true := by rw [List.contains_cons, hB, Bool.or_true]
  have hcA : (Value.ref C :: bm).contains (.type "AttributeError") = false := by rw [List.contains_cons, hA]; rfl
  have hcN : (Value.ref C :: bm).contains (.type "NameError") = false := by rw [List.contains_cons, hN]; rfl
  refine codeAny_builtinAt F.entry ?_
  unfold Builtin.«BaseException.__new__»
  refine wpAt_bind ?_
  show wpAt _ _ _ (stack >>= _) _ _ _
  refine wpAt_bind (wpAt_stack fun p below => wpAt_of_wpAny ?_)
  wp_walk
  refine wpAt_of_wpAny ?_
  rw [F.owner]
  repeat (first | with_reducible refine wpAny_madeHere_exc F.canon hC ?_ | with_reducible refine wpAny_loadPart_at hC ?_ | (with_reducible refine wpAny_isSubtype_exc hC ?_; first | rw [hcB] | rw [hcA] | rw [hcN]) | wp_step)
  show R _ _
  rw [Heap.size_push]
  exact hq
theorem type_callX (F : ExcBaseFacts B newId initId bmB) (hB : bm.contains (.type B) = true) (hA : bm.contains (.type "AttributeError") = false) (hN : bm.contains (.type "NameError") = false) {rest : List Value} {fI : Addr} {Q : Fin → Shared → Prop}
    (hC : h.get? C = some (excClassObj nm q C N bs bm hdct sn sub ab col dd k0 k1 k2 k3 k5 newId))
    (hi : W.Looks (model prog w) h (typeLookup (.ref C) "__init__") (some (.ref fI))) (hb : ∀ self, W.Looks (model prog w) h (bindSpecial (.ref fI) self) (.ref fI, [self])) (hrest : rest.length ≤ sizeLine)
    (hq : codeAny (model prog w) A (.call (.ref fI) ⟨.ref (h.objs.size + 1) :: rest, []⟩)
      (fun r s' => match r with | .ok (.ret v) => v = .none ∧ Q (.done (.ret (.ref (h.objs.size + 1)))) s' | .ok _ => False | .error e => E e s')
      ⟨(h.push (W.kdv_tup rest)).push (excO C h.objs.size), g, d, t, os⟩) :
    wpAny (model prog w) A (Builtin.«type.__call__» ⟨.ref C :: rest, []⟩) Q E ⟨h, g, d, t, os⟩ := by
  repeat (first | with_reducible refine wpAny_loadPart_at hC ?_ | with_reducible refine wpAny_madeBy_exc hC ?_ | wp_step)
  refine codeAny_call_builtin_code (Code.quiet_builtin _ F.quiet) (check_newX F hB hC ?_)
  refine newX F hB hA hN hC ?_ hrest
  show wpAny _ _ _ _ _ _
  have k : ∀ b o, h.get? b = some o → ((h.push (W.kdv_tup rest)).push (excO C h.objs.size)).get? b = some o := fun b o e => Heap.get?_push_of_some _ (Heap.get?_push_of_some _ e)
  have hC₁ := k _ _ hC
  have hget : ((h.push (W.kdv_tup rest)).push (excO C h.objs.size)).get? (h.objs.size + 1) = some (excO C h.objs.size) := by heap_get
  have hcC : (Value.ref C :: bm).contains (.ref C) = true := by simp
  have i1 := hi.keeps k
  have b1 := (hb (.ref (h.objs.size + 1))).keeps k
  unfold isInstance
  repeat (first | with_reducible refine wpAny_loadPart_at hget ?_ | (with_reducible refine wpAny_isSubtype_exc hC₁ ?_; rw [hcC]) | wp_step)
  show wpAny _ _ (typeLookup (.ref C) _) _ _ _
  refine i1.at ?_
  refine wpAny_holding (wpAny_bind (b1.at ?_))
  refine wpAny_bind (wpAny_call (codeAny_mono hq fun r s' z => ?_))
  rcases r with e | (v | _ | _ | _) <;> first | exact z | exact z.elim | skip
  obtain ⟨rfl, z⟩ := z
  first
    | exact wpAny_pure (wpAny_pure z)
    | (wp_walk; exact z)
theorem callX (F : ExcBaseFacts B newId initId bmB) (hB : bm.contains (.type B) = true) (hA : bm.contains (.type "AttributeError") = false) (hN : bm.contains (.type "NameError") = false) {rest : List Value} {fI : Addr}
    (hC : h.get? C = some (excClassObj nm q C N bs bm hdct sn sub ab col dd k0 k1 k2 k3 k5 newId))
    (hi : W.Looks (model prog w) h (typeLookup (.ref C) "__init__") (some (.ref fI))) (hb : ∀ self, W.Looks (model prog w) h (bindSpecial (.ref fI) self) (.ref fI, [self])) (hrest : rest.length ≤ sizeLine)
    (hq : codeAny (model prog w) (A.under (.builtin "type.__call__" ⟨.ref C :: rest, []⟩)) (.call (.ref fI) ⟨.ref (h.objs.size + 1) :: rest, []⟩) (W.InitBack (h.objs.size + 1) R)
      ⟨(h.push (W.kdv_tup rest)).push (excO C h.objs.size), g, d, t, os⟩) :
    codeAny (model prog w) A (.call (.ref C) ⟨rest, []⟩) R ⟨h, g, d, t, os⟩ := by
  have f1 := tc_lookup
  have f2 := tc_bind (.ref C)
  have hTy : (⟨h, g, d, t, os⟩ : Shared).TypeIs (.ref C) "type" := ⟨_, hC, rfl⟩
  refine codeAny_of_tree ?_
  show wpAny _ _ (callAny (.ref C) _) _ _ _
  repeat (any_goals (first | assumption | with_reducible refine wpAny_loadPart_at hC ?_ | wp_step))
  refine ⟨rfl, ?_⟩
  refine codeAny_call_builtin_at (Code.quiet_builtin _ (by decide +kernel)) entry_typeCall (wpAny_check_type_call_sub hC (type_callX F hB hA hN hC hi hb hrest ?_))
  refine codeAny_mono hq fun r s' z => ?_
  rcases r with e | (v | _ | _ | _) <;> exact z
theorem callB (b : Bool) (hbm : refsX b bm = true) {rest : List Value} {fI : Addr}
    (hC : h.get? C = some (excClassObj nm q C N bs bm hdct sn sub ab col dd k0 k1 k2 k3 k5 (newIdX b)))
    (hi : W.Looks (model prog w) h (typeLookup (.ref C) "__init__") (some (.ref fI))) (hb : ∀ self, W.Looks (model prog w) h (bindSpecial (.ref fI) self) (.ref fI, [self])) (hrest : rest.length ≤ sizeLine)
    (hq : codeAny (model prog w) (A.under (.builtin "type.__call__" ⟨.ref C :: rest, []⟩)) (.call (.ref fI) ⟨.ref (h.objs.size + 1) :: rest, []⟩) (W.InitBack (h.objs.size + 1) R)
      ⟨(h.push (W.kdv_tup rest)).push (excO C h.objs.size), g, d, t, os⟩) :
    codeAny (model prog w) A (.call (.ref C) ⟨rest, []⟩) R ⟨h, g, d, t, os⟩ := by
  cases b with
  | false => exact callX F.excBase_ValueError ((refsX_contains false _ _ hbm).trans (by decide +kernel)) ((refsX_contains false _ _ hbm).trans (by decide +kernel)) ((refsX_contains false _ _ hbm).trans (by decide +kernel)) hC hi hb hrest hq
  | true => exact callX F.excBase_LookupError ((refsX_contains true _ _ hbm).trans (by decide +kernel)) ((refsX_contains true _ _ hbm).trans (by decide +kernel)) ((refsX_contains true _ _ hbm).trans (by decide +kernel)) hC hi hb hrest hq
end

/-! ### super().__init__(..): the built-in one -/
theorem kxs_KeyError : KxsFacts "KeyError" "KeyError.__init__" := ⟨by show builtinType _ = _; rw [builtinType_eq_fast]; kernel_rfl, by first | kernel_rfl | rfl⟩
theorem kxsX (b : Bool) : KxsFacts (baseX b) (initIdX b) := by
  cases b with
  | false => exact kxs_ValueError
  | true => exact kxs_KeyError
section
variable {M : Model} {A : Around} {E : Value → Shared → Prop} {h : Heap} {g : Array GenState} {d : Drawn} {t : Nat} {os : OsState}
variable {nm q : Str} {C N : Addr} {bs bm bmB : List Value} {hdct : Bool} {sn : List Str} {sub : List Value} {ab : Bool} {col : Option Bool} {dd : Option Addr} {k0 k1 k2 k3 k5 : Option Value} {newId cls initId : String}
theorem check_bX {e : Addr} {oe : Obj} {rest : List Value} {Q : Unit → Shared → Prop} (nS : (cls != "*") = true) (iK : builtinKind initId = some .slot) (iR : Manifest.signature? initId = some ⟨.positional, "*", cls, .self, [⟨"args", .varPos, false⟩]⟩)
    (hC : h.get? C = some (excClassObj nm q C N bs bm hdct sn sub ab col dd k0 k1 k2 k3 k5 newId)) (he : h.get? e = some oe) (hcls : oe.cls = .ref C) (hq : Q () ⟨h, g, d, t, os⟩) : wpAny M A (checkBoundCall initId ⟨.ref e :: rest, []⟩) Q E ⟨h, g, d, t, os⟩ := by
  have hshort := nS
  simp only [checkBoundCall, iK, iR]
  repeat (first | (with_reducible refine wpAny_loadPart_at he ?_; rw [hcls]) | with_reducible refine wpAny_loadPart_at hC ?_ | wp_step)
  refine wpAny_onRaise ?_
  rw [show ∀ (a b : String) (n : Nat), Bind.check ⟨.positional, "*", cls, .self, [⟨"args", .varPos, false⟩]⟩ a b n (List.map (fun x => x.fst) ({ pos := Value.ref e :: rest } : Args).kw) = pure () from
    fun a b n => check_star_args _ _ _ _ _ _]
  exact wpAny_pure hq
end
section
variable {prog : Program} {w : World} {A : Around} {E : Value → Shared → Prop} {h : Heap} {g : Array GenState} {d : Drawn} {t : Nat} {os : OsState}
variable {nm q : Str} {C N : Addr} {bs bm : List Value} {hdct : Bool} {sn : List Str} {sub : List Value} {ab : Bool} {col : Option Bool} {dd : Option Addr} {k0 k1 k2 k3 k5 : Option Value} {newId : String}
theorem super_callG {initId cls : String} {u e t0 : Addr} {rest : List Value} {Q : Value → Shared → Prop} (nS : (cls != "*") = true) (iK : builtinKind initId = some .slot) (iR : Manifest.signature? initId = some ⟨.positional, "*", cls, .self, [⟨"args", .varPos, false⟩]⟩)
    (pl : plainId initId = true) (en : entryFor table initId = some Builtin.«BaseException.__init__»)
    (hC : h.get? C = some (excClassObj nm q C N bs bm hdct sn sub ab col dd k0 k1 k2 k3 k5 newId)) (he : h.get? e = some (excO C t0)) (hu : h.get? u = some (kxs_mw initId e)) (hrest : rest.length ≤ sizeLine)
    (hq : ∀ h' t1, (∀ b o, b ≠ e → h.get? b = some o → h'.get? b = some o) → h'.get? e = some (excO C t1) → Q .none ⟨h', g, d, t, os⟩) :
    wpAny (model prog w) A (call (.ref u) rest) Q E ⟨h, g, d, t, os⟩ := by
  refine wpAny_call (codeAny_of_tree ?_)
  show wpAny _ A.in1 (callAny (.ref u) ⟨rest, []⟩) _ _ _
  simp only [callAny]
  refine wpAny_bind (wpAny_load hu ?_)
  simp only [kxs_mw, show (Value.type "method-wrapper" == Value.type "method" || Value.type "method-wrapper" == Value.type "builtin_function_or_method" || Value.type "method-wrapper" == Value.type "method-wrapper") = true by decide, if_true]
  refine W.KFB.if_so (by decide) ?_
  refine wpAny_bind (check_bX nS iK iR hC he rfl ?_)
  refine wpAny_bind (wpAny_pure (wpAny_pure ?_))
  refine ⟨plainId_quiet pl _, codeAny_builtin en ?_⟩
  rw [Around.under_plainId pl _]
  exact exc_init_tree (cls := .ref C) (t0 := t0) (dv := none) (c2 := .none) (c3 := .none) (b4 := .bool false) he hrest fun h' k e' _ => hq h' _ k e'
theorem super_call (b : Bool) {u e t0 : Addr} {rest : List Value} {Q : Value → Shared → Prop}
    (hC : h.get? C = some (excClassObj nm q C N bs bm hdct sn sub ab col dd k0 k1 k2 k3 k5 newId)) (he : h.get? e = some (excO C t0)) (hu : h.get? u = some (kxs_mw (initIdX b) e)) (hrest : rest.length ≤ sizeLine)
    (hq : ∀ h' t1, (∀ b o, b ≠ e → h.get? b = some o → h'.get? b = some o) → h'.get? e = some (excO C t1) → Q .none ⟨h', g, d, t, os⟩) :
    wpAny (model prog w) A (call (.ref u) rest) Q E ⟨h, g, d, t, os⟩ := by
  cases b with
  | false =>
    rw [show initIdX false = "ValueError.__init__" from rfl] at hu
    exact super_callG F.excBase_ValueError.noStar F.excBase_ValueError.initKind F.excBase_ValueError.initRow F.excBase_ValueError.init.plain F.excBase_ValueError.initEntry hC he hu hrest hq
  | true =>
    rw [show initIdX true = "KeyError.__init__" from rfl] at hu
    exact super_callG excClass_KeyError.notStar excClass_KeyError.initKind excClass_KeyError.initSig excClass_KeyError.init.plain excClass_KeyError.initEntry hC he hu hrest hq
end
end ZEX
end PySem

set_option Elab.async false
set_option linter.all false
set_option maxRecDepth 100000
set_option maxHeartbeats 4000000
namespace PySem
namespace ZEX
open PySem.W PySem.Calls PyProof.Rows PySem.HandSPX
section
open Builtin Builtin.ObjectAttr
variable {prog : Program} {w : World} {A : Around} {E : Value → Shared → Prop} {R : Result → Shared → Prop} {hp : Heap} {g : Array GenState} {d : Drawn} {t : Nat} {os : OsState}
/-- self.name = v on an exception of the family: the walk to the own dict -/
theorem osaX {K : W.Frag} {b : Bool} {name : Str} {tk : Tok} {v : Value} {x C : Addr} {ox : Obj} {od : Option Obj} {cd : ClassData}
    (X : K.In hp) (I : W.InstAt hp x ox C od) (hcd : W.clsIn K C = some cd) (hm : refsX b cd.mro = true) (ha : W.findIn K (.ref C) name = some none)
    (hq : wpAny (model prog w) A.in1 (storeInOwnDict (.ref x) (.ref C) (.str name tk) name v false)
      (fun fin s' => match fin with | .done f => R (.ok f) s' | .again c' => c'.quiet = true ∧ codeAny (model prog w) A c' R s') (fun e s' => R (.error e) s') ⟨hp, g, d, t, os⟩) :
    codeAny (model prog w) A (.call (.builtin "object.__setattr__") ⟨[.ref x, .str name tk, v], []⟩) R ⟨hp, g, d, t, os⟩ := by
  have SF := F.store_object
  have ne := refsX_ne b hm
  have hob : cd.mro.contains (.type "object") = true := (refsX_contains b "object" _ hm).trans (by cases b <;> decide +kernel)
  have sub : W.Looks (model prog w) hp (isInstance (.ref x) (.type "object")) true := I.type.andThen (W.looks_mroIn X (by unfold W.mroIn; rw [hcd, Option.bind_some, if_neg (by rw [ne]; decide), hob]))
  refine codeAny_call_builtin SF.slot.plain SF.entry (@W.check_slot (model prog w) _ _ ⟨hp, g, d, t, os⟩ "object.__setattr__" "object" "__setattr__" (.ref x) [.str name tk, v] [] _ SF.kind SF.split sub (SF.args (.ref x) (.str name tk) v) ?_)
  have hmr : W.Looks (model prog w) hp (mroOf (.ref C)) cd.mro := (W.looks_clsIn X hcd).andThen .now
  have L3 : W.Looks (model prog w) hp (storeTaker? none) none := .now
  rw [W.osa_eq, refuse_eq]
  refine wpAny_bind (wpAny_bind (I.type.at (wpAny_bind (hmr.at ?_))))
  rw [refsX_pass b _ _ hm]
  refine wpAny_pure (wpAny_bind (I.type.at (wpAny_bind ((W.looks_findIn X ha).at (wpAny_bind (L3.at ?_))))))
  exact hq
theorem osaX_new {K : W.Frag} {b : Bool} {name : Str} {tk : Tok} {v : Value} {x C : Addr} {fv : Array Value} {cd : ClassData}
    (X : K.In hp) (hx : hp.get? x = some { cls := .ref C, data := .fields fv }) (hcd : W.clsIn K C = some cd) (hm : refsX b cd.mro = true) (hh : cd.hasDict = true) (ha : W.findIn K (.ref C) name = some none)
    (hq : ∀ h' tk' dx, (∀ b o, b ≠ x → hp.get? b = some o → h'.get? b = some o) → hp.objs.size ≤ dx → dx ≠ x → h'.get? x = some { cls := .ref C, dict := some dx, data := .fields fv } →
      h'.Ns1 dx (fun y => if y = name then some v else none) → R (.ok (.ret .none)) ⟨h', g, d, tk', os⟩) :
    codeAny (model prog w) A (.call (.builtin "object.__setattr__") ⟨[.ref x, .str name tk, v], []⟩) R ⟨hp, g, d, t, os⟩ := by
  have I : W.InstAt hp x { cls := .ref C, data := .fields fv } C none := ⟨hx, rfl, rfl, trivial⟩
  have hxs : x ≠ hp.objs.size := Nat.ne_of_lt (Heap.lt_size hx)
  refine osaX X I hcd hm ha ?_
  have hcls : W.Looks (model prog w) hp (classData C) cd := W.looks_clsIn X hcd
  obtain ⟨nm, bs, mro, ns, qn, hd, sn, sb, ab, col, del⟩ := cd
  dsimp only at hh
  subst hh
  unfold storeInOwnDict ownDictForStores
  repeat (first | with_reducible refine HandSPX.store_in_new ?_ ?_ | with_reducible refine wpAny_loadPart_at hx ?_ | with_reducible refine hcls.at ?_ | wp_step)
  · exact ⟨_, #[], _, (Heap.get?_update_ne _ _ _ _ hxs.symm).trans (Heap.get?_push_at rfl rfl), rfl, fun e he => absurd he (by simp), fun _ => rfl⟩
  · intro h' tk' hn' hs
    have hx₁ : (hp.push { cls := .type "dict", data := .dict #[] }).get? x = some { cls := .ref C, data := .fields fv } := Heap.get?_push_of_some _ hx
    refine hq h' tk' hp.objs.size (fun b o hb ho => ?_) (Nat.le_refl _) hxs.symm ?_ hn'
    · exact (hs.2 b (Nat.ne_of_lt (Heap.lt_size ho))).trans ((Heap.get?_update_ne _ _ _ _ hb).trans (Heap.get?_push_of_some _ ho))
    · exact (hs.2 x hxs).trans (Heap.get?_update_self _ hx₁ rfl)
theorem osaX_old {K : W.Frag} {b : Bool} {name : Str} {tk : Tok} {v : Value} {x C dx : Addr} {fv : Array Value} {cd : ClassData} {m0 : Str → Option Value} {nl : List Str}
    (X : K.In hp) (hx : hp.get? x = some { cls := .ref C, dict := some dx, data := .fields fv }) (hns : hp.Ns1 dx m0) (hw : Within m0 nl) (hz : nl.length ≤ 1000) (hcd : W.clsIn K C = some cd) (hm : refsX b cd.mro = true) (hh : cd.hasDict = true)
    (ha : W.findIn K (.ref C) name = some none)
    (hq : ∀ h' tk', (∀ b o, b ≠ dx → hp.get? b = some o → h'.get? b = some o) → h'.Ns1 dx (fun y => if y = name then some v else m0 y) → R (.ok (.ret .none)) ⟨h', g, d, tk', os⟩) :
    codeAny (model prog w) A (.call (.builtin "object.__setattr__") ⟨[.ref x, .str name tk, v], []⟩) R ⟨hp, g, d, t, os⟩ := by
  obtain ⟨oD, esD, epD, hoD, hdD, _⟩ := hns.count hw
  have I : W.InstAt hp x { cls := .ref C, dict := some dx, data := .fields fv } C (some oD) := ⟨hx, rfl, rfl, hoD⟩
  refine osaX X I hcd hm ha ?_
  have hcls : W.Looks (model prog w) hp (classData C) cd := W.looks_clsIn X hcd
  obtain ⟨nm, bs, mro, ns, qn, hd, sn, sb, ab, col, del⟩ := cd
  dsimp only at hh
  subst hh
  unfold storeInOwnDict ownDictForStores
  repeat (first | with_reducible refine OEX.store_in_old hns hw hz ?_ | with_reducible refine wpAny_loadPart_at hx ?_ | with_reducible refine hcls.at ?_ | wp_step)
  intro h' tk' hn' hs
  exact hq h' tk' (fun b o hb ho => (hs.2 b hb).trans ho) hn'
end
/-! ### e.__class__, C.__name__ -/
section
variable {prog : Program} {w : World} {A : Around} {E : Value → Shared → Prop} {s : Shared} {K : Frag} {x C : Addr} {ox : Obj} {od : Option Obj}
theorem class_getE {gt : Option Value} {expr : Bool} {Q : Value → Shared → Prop} (X : K.In s.heap) (I : InstAt s.heap x ox C od) (hga : findIn K (.ref C) "__getattribute__" = some (some (.builtin "BaseException.__getattribute__"))) (hgt : findIn K (.ref C) "__getattr__" = some gt)
    (hsub : subIn K (.ref C) (.type "BaseException") = some true) (hf : findObj K C od "__class__" = some (.bind (.builtin "getset_descriptor.__get__") (.builtin "object.__class__"))) (hm : mroIn K C (.type "object") = some true)
    (h : Q (.ref C) { s with toks := s.toks + 1 }) : wpAny (model prog w) A (getAttr (.ref x) "__class__" expr) Q E s := by
  obtain ⟨hp, g, d, t, os⟩ := s
  have L0 := I.type (M := model prog w)
  have L1 := looks_findIn (M := model prog w) X hga
  have L2 := looks_findIn (M := model prog w) X hgt
  have L3 := looks_find (M := model prog w) X I hf
  have sub : Looks (model prog w) hp (isInstance (.ref x) (.type "BaseException")) true := L0.andThen (looks_subIn X hsub)
  have hx0 : (expr && onTheHeap (Value.builtin "BaseException.__getattribute__")) = false := by cases expr <;> rfl
  have hx2 : (Value.builtin "BaseException.__getattribute__" == Value.builtin "object.__getattribute__") = false := by decide +kernel
  have hx1 : (onTheHeap (Value.ref C) && Value.builtin "BaseException.__getattribute__" == Value.builtin "object.__getattribute__") = false := by rw [hx2]; rfl
  unfold getAttr getAttrBy
  refine wpAny_bind (wpAny_mkText (wpAny_holding (wpAny_bind (L0.at (wpAny_bind (L1.at ?_))))))
  show wpAny _ _ (if (onTheHeap (Value.ref C) && Value.builtin "BaseException.__getattribute__" == Value.builtin "object.__getattribute__") = true then _ else _) _ _ _
  rw [hx1, if_neg Bool.false_ne_true]
  unfold getAttrByItsOwn hookBefore
  refine wpAny_bind ?_
  rw [if_pos (show onTheHeap (Value.ref C) = true from rfl)]
  refine L2.at ?_
  refine wpAny_bind (wpAny_attempt (wpAny_holding ?_))
  unfold callGetattribute
  rw [hx0, if_neg Bool.false_ne_true]
  unfold boundAndCalled
  rw [PySem.F.excAttr_ValueError.ga.bind (.ref x)]
  refine wpAny_bind (wpAny_pure ?_)
  show wpAny _ _ (call (.builtin "BaseException.__getattribute__") [.ref x, .str "__class__" t]) _ _ _
  refine wpAny_call (codeAny_call_builtin PySem.F.excAttr_ValueError.ga.plain PySem.F.entry_bexc_ga ?_)
  refine @PySem.W.check_slot (model prog w) _ _ ⟨hp, g, d, t + 1, os⟩ "BaseException.__getattribute__" "BaseException" "__getattribute__" (.ref x) [.str "__class__" t] [] _ (by decide +kernel) (by decide +kernel) sub (PySem.F.args_bexc_ga (.ref x) (.str "__class__" t)) ?_
  unfold Builtin.«object.__getattribute__»
  refine wpAny_bind (wpAny_of_eq (a := ((Value.ref x : Value), [Value.str "__class__" t])) (by first | rfl | (simp only [slotArgs]; rfl)) ?_)
  refine wpAny_bind (wpAny_pure (wpAny_bind (L0.at (wpAny_bind (L3.at ?_)))))
  refine wpAny_bind (wpAny_holding (wpAny_call (class_get (s := ⟨hp, g, d, t + 1, os⟩) (ox := ox) (od := od) X I hm ?_)))
  refine wpAny_pure ?_
  show wpAny _ _ (handedOut (.ref C)) _ _ _
  rw [handedOut_of (show handedIn (.ref C) = true from rfl)]
  first | exact wpAny_pure h | exact wpAny_pure (wpAny_pure h)
end
section
open Builtin Builtin.ObjectAttr Builtin.Getset_descriptor
variable {prog : Program} {w : World} {A : Around} {E : Value → Shared → Prop} {s : Shared} {K : Frag} {C : Addr} {R : Result → Shared → Prop}
/-- what stands in a class's place of its name -/
def nameIn (K : Frag) (C : Addr) : Option Value := match K.lookup C with
  | some o => (o.slots[2]?).join
  | none => none
theorem name_get {tp v : Value} (X : K.In s.heap) (ht : typeIn K (.ref C) = some (.type "type")) (hn : nameIn K C = some v) (h : R (.ok (.ret v)) s) :
    codeAny (model prog w) A (.call (.builtin "getset_descriptor.__get__") ⟨[.builtin "type.__name__", .ref C, tp], []⟩) R s := by
  obtain ⟨o, ho, hs⟩ : ∃ o, K.lookup C = some o ∧ (o.slots[2]?).join = some v := by
    unfold nameIn at hn
    split at hn
    · rename_i o e
      exact ⟨o, e, hn⟩
    · cases hn
  have hC := X _ _ ho
  obtain ⟨hh, g, dr, t, os⟩ := s
  have L0 : Looks (model prog w) hh (typeOf (.ref C)) (.type "type") := looks_typeIn X ht
  have L1 : Looks (model prog w) hh (isSubtype (.type "type") (.type "type")) true := Looks.of_pure (by rw [isSubtype_type]; kernel_rfl)
  refine codeAny_call_builtin KF.slot_gs.plain KF.entry_gs (KF.slot_gs.check _ _ _ _ _ _ _ _ ktyn_type (KF.args_gs _ _ _) ?_)
  unfold Builtin.«getset_descriptor.__get__» descrGet
  rw [dga_obj]
  refine wpAny_bind (wpAny_pure ?_)
  unfold descrGetter descrCheckInstance descrNameAndClass isInstance
  simp only [ktyn_owner]
  repeat lk
  refine ⟨Code.quiet_builtin _ (by decide +kernel), codeAny_builtin ktyn_entry ?_⟩
  unfold Builtin.«type.__name__» keptObject slotAt
  dsimp only
  refine wpAny_bind (wpAny_bind (wpAny_loadPart hC (wpAny_pure ?_)))
  rw [hs]
  exact wpAny_pure h
theorem cls_name {expr : Bool} {v : Value} {Q : Value → Shared → Prop} (X : K.In s.heap) (ho : nsIn K cStatics "thirdparty.any" = some none) (ht : typeIn K (.ref C) = some (.type "type"))
    (e : findCls K (.ref C) (.type "type") "__name__" = some (.get (.builtin "getset_descriptor.__get__") (.builtin "type.__name__") (.ref C) (.type "type"))) (hn : nameIn K C = some v) (hh : handedIn v = true)
    (h : ∀ u, Q v { s with toks := u }) : wpAny (model prog w) A (getAttr (.ref C) "__name__" expr) Q E s := by
  have hg : findIn K (.type "type") "__getattribute__" = some (some (.builtin "type.__getattribute__")) := type_tga
  refine cls_open X (looks_opaque X ho) (looks_typeIn X ht) hg (looks_hook X (r := none) (by rfl)) (by show subIn K _ _ = _; rfl) e ?_
  show wpAny _ _ (do ret (← holding [Value.builtin "type.__name__"] (call (.builtin "getset_descriptor.__get__") [.builtin "type.__name__", .ref C, .type "type"]))) _ _ _
  refine wpAny_bind (wpAny_holding (wpAny_call (name_get (s := { s with toks := s.toks + 1 }) X ht hn ?_)))
  exact wpAny_pure (handed_on hh (h _))
end
end ZEX
end PySem

set_option Elab.async false
set_option linter.all false
set_option maxRecDepth 100000
set_option maxHeartbeats 4000000
namespace L2
open PySem PySem.Spec PySem.Calls PyProof.Rows NdefX ClX
/-- what the written part says of an own exception class of the family b -/
structure OxC (K : PySem.W.Frag) (b : Bool) (C : Addr) : Prop where
  cls : ∃ nm q N bs bm sn sub ab col dd k0 k1 k2 k3 k5, K.lookup C = some (excClassObj nm q C N bs bm true sn sub ab col dd k0 k1 k2 k3 k5 (PySem.ZEX.newIdX b)) ∧ PySem.ZEX.refsX b bm = true
  sa : PySem.W.findIn K (.ref C) "__setattr__" = some (some (.builtin "object.__setattr__"))
  exC : PySem.W.subIn K (.ref C) (.type "BaseException") = some true
  tyC : PySem.W.typeIn K (.ref C) = some (.type "type")
  kC : PySem.W.keepIn K (.ref C) = true
/-- what of it its own name wants -/
structure NmC (K : PySem.W.Frag) (C : Addr) (nm : Str) : Prop where
  ga : PySem.W.findIn K (.ref C) "__getattribute__" = some (some (.builtin "BaseException.__getattribute__"))
  gg : PySem.W.findIn K (.ref C) "__getattr__" = some none
  exC : PySem.W.subIn K (.ref C) (.type "BaseException") = some true
  ic : PySem.W.isClsIn K C = true
  ca : PySem.W.findIn K (.ref C) "__class__" = some (some (.builtin "object.__class__"))
  sp : PySem.W.specialIn K (.builtin "object.__class__") "__get__" = some (some (.builtin "getset_descriptor.__get__"))
  tk : PySem.W.takesIn K (.builtin "object.__class__") = some true
  ob : PySem.W.mroIn K C (.type "object") = some true
  st : PySem.W.nsIn K cStatics "thirdparty.any" = some none
  ty : PySem.W.typeIn K (.ref C) = some (.type "type")
  cn : PySem.W.findCls K (.ref C) (.type "type") "__name__" = some (.get (.builtin "getset_descriptor.__get__") (.builtin "type.__name__") (.ref C) (.type "type"))
  nm : ∃ t, PySem.ZEX.nameIn K C = some (.str nm t)
section
variable {X : Cx} {pins : List (Addr × Obj)} {σ : St} {H : Hp} {s : Shared} {a C dx : Addr} {b : Bool} {f : Str} {y : V} {u : Value} {fs : List (Str × V)} {Q : Unit → Shared → Prop} {E : Value → Shared → Prop} {A : Around}
/-- self.f = y, the first one -/
theorem ostX_new (T : OxC X.K b C) (I : Inv X pins σ H s) (e : H a = some (exo a C none)) (hno : PySem.W.findIn X.K (.ref C) f = some none) (ry : RelV y u)
    (h : ∀ dx s', H dx = none → dx ≠ a → Inv X pins σ (upd (upd H dx (exd dx [(f, y)])) a (exo a C (some dx))) s' → Q () s') : wpAny (model X.prog X.w) A (setAttr (.ref a) f u) Q E s := by
  obtain ⟨nm, q, N, bs, bm, sn, sub, ab, col, dd, k0, k1, k2, k3, k5, hC, hbm⟩ := T.cls
  have hcl : PySem.W.clsIn X.K C = some { name := nm, bases := bs, mro := .ref C :: bm, ns := N, qualname := q, hasDict := true, slotNames := sn, subclasses := sub, abstract := ab, collection := col, hasDel := false } := by unfold PySem.W.clsIn; rw [hC] <;> rfl
  obtain ⟨t1, ho⟩ := exo_at I.hok e
  obtain ⟨hp, g, d, t, os⟩ := s
  refine PySem.W.set_plain I.kIn (ox := { cls := .ref C, dict := none, data := .fields #[.ref t1, .none, .none, .none, .bool false, .none] }) (od := none) ⟨ho, rfl, rfl, trivial⟩ T.sa ?_
  refine PySem.ZEX.osaX_new (b := b) I.kIn ho hcl (show PySem.ZEX.refsX b (.ref C :: bm) = true from hbm) rfl hno (fun h' tk' dx k dn dne hx hn => ?_)
  have hnd : H dx = none := I.hok.fresh dn
  have nd : ∀ {b : Addr} {o : Obj}, hp.get? b = some o → b ≠ dx := fun {b o} q => Nat.ne_of_lt (Nat.lt_of_lt_of_le (Heap.lt_size q) dn)
  have na : ∀ {b : Addr}, H b = none → b ≠ a := fun {b} n z => by
    rw [z, e] at n
    cases n
  have Un1 : Un X.fs [] H (upd (upd H dx (exd dx [(f, y)])) a (exo a C (some dx))) hp h' := {
    keep := fun b o q n _ _ => k b o (na n) q
    slot := fun b o q n _ _ => ⟨o.slots, k b o (na n) q⟩
    free := fun b o q n _ => by rw [upd_ne (na n), upd_ne (nd q)]; exact n
    there := fun b o q _ => by
      by_cases hb : b = a
      · exact ⟨_, by rw [hb]; exact hx⟩
      · exact ⟨o, k b o hb q⟩
    tups := fun b xs q => by rw [upd_ne (at_ne e q exo_tup), upd_ne (ne_of_none q hnd)]; exact q
    frzs := fun b o v q => by rw [upd_ne (at_ne e q exo_frz), upd_ne (ne_of_none q hnd)]; exact q
    tbls := fun b ps q => ⟨#[], by rw [upd_ne (at_ne e q exo_tbl), upd_ne (ne_of_none q hnd), q]; simp⟩ }
  refine h dx _ hnd dne (I.un (t' := tk') Un1 fun b o q => ?_)
  by_cases hb : b = a
  · subst hb
    rw [upd_same] at q
    cases q
    exact exo_ok hx
  · rw [upd_ne hb] at q
    by_cases hd : b = dx
    · subst hd
      rw [upd_same] at q
      cases q
      exact exd_ok hn (relO_put (fs := []) ry fun g => True.intro)
    · rw [upd_ne hd] at q
      exact (I.hok b o q).stay (fun c v hc z => k c v (by
          rcases hc with hc | hc
          · rw [hc]
            exact hb
          · exact at_ne e hc exo_own) z)
        (fun c hc => by rw [upd_ne (at_ne e hc exo_own), upd_ne (ne_of_none hc hnd)]; exact hc) (fun c xs hc => by rw [upd_ne (at_ne e hc exo_tup), upd_ne (ne_of_none hc hnd)]; exact hc)
/-- self.f = y, a further one -/
theorem ostX_old (T : OxC X.K b C) (I : Inv X pins σ H s) (e : H a = some (exo a C (some dx))) (ed : H dx = some (exd dx fs)) (hl : fs.length ≤ 900) (hno : PySem.W.findIn X.K (.ref C) f = some none) (ry : RelV y u)
    (h : ∀ s', Inv X pins σ (upd H dx (exd dx ((f, y) :: fs))) s' → Q () s') : wpAny (model X.prog X.w) A (setAttr (.ref a) f u) Q E s := by
  obtain ⟨nm, q, N, bs, bm, sn, sub, ab, col, dd, k0, k1, k2, k3, k5, hC, hbm⟩ := T.cls
  have hcl : PySem.W.clsIn X.K C = some { name := nm, bases := bs, mro := .ref C :: bm, ns := N, qualname := q, hasDict := true, slotNames := sn, subclasses := sub, abstract := ab, collection := col, hasDel := false } := by unfold PySem.W.clsIn; rw [hC] <;> rfl
  obtain ⟨t1, ho⟩ := exo_at I.hok e
  obtain ⟨mA, hns, rel⟩ := exd_at I.hok ed
  have hw := within_of rel
  obtain ⟨hp, g, d, t, os⟩ := s
  obtain ⟨oD, _, _, hoD, _, _⟩ := hns.count hw
  refine PySem.W.set_plain I.kIn (ox := { cls := .ref C, dict := some dx, data := .fields #[.ref t1, .none, .none, .none, .bool false, .none] }) (od := some oD) ⟨ho, rfl, rfl, hoD⟩ T.sa ?_
  refine PySem.ZEX.osaX_old (b := b) I.kIn ho hns hw (by rw [List.length_map]; omega) hcl (show PySem.ZEX.refsX b (.ref C :: bm) = true from hbm) rfl hno (fun h' tk' k hn => ?_)
  have hd : ∃ o, h'.get? dx = some o := by
    obtain ⟨o, _, _, e', _⟩ := hn
    exact ⟨o, e'⟩
  exact h _ (I.write (t' := tk') (x := dx) (e := dx) (o := exd dx ((f, y) :: fs)) (by rw [ed]; exact True.intro) (.inl rfl) k hd (exd_ok hn (relO_put ry rel)))
end
/-! ### readings and rules -/
/-- self.f = e -/
def tOsX (K : PySem.W.Frag) (f : Str) (to te : TE) : TS := fun D σ H => te σ H fun y H1 => to σ H1 fun x H2 => ∃ (a C : Addr) (b : Bool), x = .ref a ∧ OxC K b C ∧ PySem.W.findIn K (.ref C) f = some none ∧
  ((H2 a = some (exo a C none) ∧ ∀ dx, H2 dx = none → dx ≠ a → D.nx σ (upd (upd H2 dx (exd dx [(f, y)])) a (exo a C (some dx)))) ∨
    ∃ (dx : Addr) (fs : List (Str × V)), H2 a = some (exo a C (some dx)) ∧ H2 dx = some (exd dx fs) ∧ fs.length ≤ 900 ∧ D.nx σ (upd H2 dx (exd dx ((f, y) :: fs))))
/-- e.__class__.__name__ of an exception that is being made -/
def tCnm (K : PySem.W.Frag) (to : TE) : TE := fun σ H Q => to σ H fun x H1 => ∃ (a C : Addr) (nm : Str), x = .ref a ∧ H1 a = some (exo a C none) ∧ NmC K C nm ∧ Q (.str nm) H1
section
variable {X : Cx} {o e : Expr} {es : List Expr} {to te : TE} {ta : TA} {f : Str} {p p' p1 p2 pos : Pos}
theorem ps_osX (ho : PE X o to) (he : PE X e te) (hs : swapsWith e (some (.Attribute o f p')) pos.line X.env = pure false := by rfl) : PS X (.Assign [.Attribute o f p'] e pos) (tOsX X.K f to te) := by
  refine ⟨fun pins s σ H D I h => ?_⟩
  refine plainObj_wpAny_Assign_Attribute (thn (he.run pins s σ H _ I h) fun v s1 ⟨y, H1, I1, r1, q1⟩ => thn (ho.run pins s1 σ H1 _ I1 q1) fun u s2 ⟨x, H2, I2, r2, a, C, b, ex, T, hno, q⟩ => ?_) hs
  subst ex
  obtain rfl : u = Value.ref a := r2
  rcases q with ⟨ea, q⟩ | ⟨dx, fs, ea, ed, hl, q⟩
  · exact ostX_new T I2 ea hno r1 fun dx s' n ne J => ⟨σ, _, J, q dx n ne⟩
  · exact ostX_old T I2 ea ed hl hno r1 fun s' J => ⟨σ, _, J, q⟩
theorem pe_cnm (ho : PE X o to) (hb1 : attributeBase o "__class__" X.env (eval o X.env) = eval o X.env := by rfl)
    (hb2 : attributeBase (.Attribute o "__class__" p1) "__name__" X.env (eval (.Attribute o "__class__" p1) X.env) = eval (.Attribute o "__class__" p1) X.env := by rfl) :
    PE X (.Attribute (.Attribute o "__class__" p1) "__name__" p2) (tCnm X.K to) := by
  refine ⟨fun pins s σ H Q I h => ?_⟩
  refine attr_of hb2 (attr_of hb1 (thn (ho.run pins s σ H _ I h) fun u s1 ⟨x, H1, I1, r1, a, C, nm, ex, ea, T, q⟩ => ?_))
  subst ex
  obtain rfl : u = Value.ref a := r1
  obtain ⟨t1, hoe⟩ := exo_at I1.hok ea
  have J : PySem.W.InstAt s1.heap a ({ cls := .ref C, dict := none, data := .fields #[.ref t1, .none, .none, .none, .bool false, .none] } : Obj) C none := ⟨hoe, rfl, rfl, trivial⟩
  refine PySem.ZEX.class_getE I1.kIn J T.ga T.gg T.exC (PySem.W.findObj_dataE T.ic T.ca T.sp T.tk) T.ob ?_
  obtain ⟨tn, hn⟩ := T.nm
  refine PySem.ZEX.cls_name (s := { s1 with toks := s1.toks + 1 }) (I1.tok _).kIn T.st T.ty T.cn hn rfl fun u2 => ?_
  exact ⟨.str nm, H1, (I1.tok _).tok _, ⟨tn, rfl⟩, q⟩
end
/-! ### super().__init__(..) as a def's first statement -/
/-- a statement's reading where the running def is known -/
def PAt (X : Cx) (body : List Stmt) (st : Stmt) (t : TS) : Prop := ∀ (pins : List (Addr × Obj)) (s : Shared) (σ : St) (H : Hp) (D : Ends), Inv X pins σ H s → t D σ H → PySem.wpAt (model X.prog X.w) X.A (.func body X.env) (exec st X.env) (SP X pins D) X.xe s
/-- what of the running def super() asks -/
structure SupF (X : Cx) (sf : Str) (i j : Nat) : Prop where
  ks : X.env.kindOf "super" = some .globalImplicit
  kc : X.env.kindOf "__class__" = some .free
  kv : X.env.kindOf sf = some .local
  ni : X.N[i]? = some sf
  nj : X.N[j]? = some "__class__"
  mg : X.mg "super" = none
  fn : ∃ (f : Addr) (oc : Value) (od : Option Addr) (fd : FuncData) (osl : Array (Option Value)) (ar : Arg), X.env.func = some f ∧ X.K.lookup f = some ⟨oc, od, .func fd, osl⟩ ∧ (fd.params.posonlyargs ++ fd.params.args).head? = some ar ∧ ar.arg = sf
  cd : ∃ (cda : Addr) (oc : Value) (od : Option Addr) (vs : Array Value) (osl : Array (Option Value)) (file : Str) (tf : Tok), X.env.code = .ref cda ∧ X.K.lookup cda = some ⟨oc, od, .fields vs, osl⟩ ∧ vs[2]? = some (.str file tf) ∧ ((X.prog.main.file : Str) == file) = true
  top : (X.prog.main.scope.names.lookup ("super" : Str)).isSome = false
/-- what of the classes: the def stands in D, C is the object's -/
structure SupC (K : PySem.W.Frag) (C D : Addr) : Prop where
  st : PySem.W.nsIn K cStatics "thirdparty.any" = some none
  icC : PySem.W.isClsIn K C = true
  icD : PySem.W.isClsIn K D = true
  sub : PySem.W.mroIn K C (.ref D) = some true
section
variable {X : Cx} {pins : List (Addr × Obj)} {σ : St} {H : Hp} {s : Shared}
theorem cls_data {K : PySem.W.Frag} {D : Addr} (h : PySem.W.isClsIn K D = true) {hp : Heap} (X : K.In hp) : ∃ oD cd, hp.get? D = some oD ∧ oD.data = .cls cd ∧ PySem.W.clsIn K D = some cd := by
  have h' : (PySem.W.clsIn K D).isSome = true := h
  obtain ⟨cd, hcd⟩ := Option.isSome_iff_exists.mp h'
  refine (fun q => ?_) hcd
  unfold PySem.W.clsIn at q
  split at q
  · rename_i c d cd' sl ho
    cases q
    exact ⟨_, _, X _ _ ho, rfl, hcd⟩
  · cases q
/-- super() stands, of the object at a -/
theorem sup_base {body : List Stmt} {self : Str} {i j : Nat} {a C D : Addr} {d : Option Addr} {p0 p1 : Pos} {attr : Str} {whole : Sem Value} {Q : Value → Shared → Prop} (S : SupF X self i j) (T : SupC X.K C D) (I : Inv X pins σ H s)
    (hi : σ[i]? = some (some (.ref a))) (hj : σ[j]? = some (some (.ref D))) (ea : H a = some (exo a C d)) (hat : (attr == ("__class__" : Str)) = false)
    (h : ∀ so s', Inv X pins σ H s' → s'.heap.get? so = some (PySem.W.ks_superObj D a C) → Q (.ref so) s') :
    PySem.wpAt (model X.prog X.w) X.A (.func body X.env) (attributeBase (.Call (.Name "super" p0) [] [] p1) attr X.env whole) Q X.xe s := by
  obtain ⟨f, oc, od, fd, osl, ar, ef, lf, hp, rfl⟩ := S.fn
  obtain ⟨cda, occ, odc, vs, oslc, file, tf, ec, lc, hvs, hfile⟩ := S.cd
  obtain ⟨t1, hoe⟩ := exo_at I.hok ea
  obtain ⟨oD, cdD, hD1, hD2, _⟩ := cls_data T.icD I.kIn
  refine ks_wpAt_super_base (env := X.env) S.ks S.kc hat ef (I.kIn _ _ lf) rfl hp ec (I.kIn _ _ lc) rfl hvs hfile S.top ?_
  obtain ⟨mb, h1, h2⟩ := I.mod.blt
  refine PySem.W.ks_loadName_global I.ok.kind S.ks (Calls.loadGlobal_builtin (by rw [I.ok.glob]; exact I.mod.glob.keeps I.bk) S.mg (by rw [I.ok.blt]; exact h1.keeps I.bk) ((h2 _ (by decide)).trans (by decide +kernel)) ⟨rfl, ?_⟩)
  obtain ⟨m, hn, hl⟩ := I.loc
  obtain ⟨u1, r1, l1⟩ := hl j _ _ S.nj hj (.inr (.inr S.kc))
  obtain rfl : u1 = Value.ref D := r1
  obtain ⟨u2, r2, l2⟩ := hl i _ _ S.ni hi (.inl S.kv)
  obtain rfl : u2 = Value.ref a := r2
  rcases l1 with ⟨z, _⟩ | ⟨_, c, hc, hcell⟩
  · rw [S.kc] at z
    cases z
  refine wpAny_loadName_free I.ok.kind S.kc hc hcell ?_
  have hm : m ar.arg = some (.ref a) := by
    rcases l2 with ⟨_, hm⟩ | ⟨z, _⟩
    · exact hm
    · rcases z with z | z <;> rw [S.kv] at z <;> cases z
  refine wpAny_loadName_local I.ok.kind S.kv hn hm ?_
  obtain ⟨hh, g, dr, t, os⟩ := s
  refine ks_wpAny_isType_cls hD1 hD2 ⟨rfl, ?_⟩
  refine ks_wpAny_call_super hD1 hD2 hoe rfl (fun c z => nomatch z) (PySem.W.looks_mroIn I.kIn T.sub) (fun h' e k => ?_)
  exact h _ _ (I.kept (t' := t) k) e
/-- the mro's part -/
theorem sup_mro {K : PySem.W.Frag} {C D : Addr} {name : Str} {v : Option Value} (e : PySem.W.ks_superIn K C D name = some v) : ∃ cd, PySem.W.clsIn K C = some cd ∧ PySem.W.alongIn K name ((cd.mro.dropWhile (· != .ref D)).drop 1) = some v := by
  unfold PySem.W.ks_superIn at e
  obtain ⟨cd, h1, h2⟩ := Option.bind_eq_some_iff.mp e
  exact ⟨cd, h1, h2⟩
theorem looks_mro {K : PySem.W.Frag} {M : Model} {h : Heap} (X : K.In h) {C : Addr} {cd : ClassData} (hc : PySem.W.clsIn K C = some cd) : PySem.W.Looks M h (mroOf (.ref C)) cd.mro := (PySem.W.looks_clsIn X hc).andThen .now
theorem exo_ne {C : Addr} {a : Addr} {d : Option Addr} (I : Inv X pins σ H s) (ea : H a = some (exo a C d)) (hc : PySem.W.isClsIn X.K C = true) : a ≠ C := fun z => by
  obtain ⟨oD, cd, h1, h2, _⟩ := cls_data hc I.kIn
  obtain ⟨t1, hoe⟩ := exo_at I.hok ea
  rw [z, h1] at hoe
  cases hoe
  cases h2
/-- super().__init__(..) where it is the built-in one -/
def tSupB (K : PySem.W.Frag) (i j : Nat) (ta : TA) : TS := fun D σ H => ∃ (a C Dc : Addr) (b : Bool), σ[i]? = some (some (.ref a)) ∧ σ[j]? = some (some (.ref Dc)) ∧ H a = some (exo a C none) ∧ OxC K b C ∧ SupC K C Dc ∧
  PySem.W.ks_superIn K C Dc "__init__" = some (some (.builtin (PySem.ZEX.initIdX b))) ∧ PySem.W.subIn K (.ref C) (.type (PySem.ZEX.baseX b)) = some true ∧
  ta σ H fun vs H1 => vs.length ≤ 1000 ∧ H1 a = some (exo a C none) ∧ D.nx σ H1
theorem ps_supB {body : List Stmt} {self : Str} {i j : Nat} {e : Expr} {es : List Expr} {ta : TA} {p0 p1 p2 p3 p4 : Pos} {pl : Sem Bool} (S : SupF X self i j) (ha : PA X (e :: es) ta)
    (hi : interactive X.env = false := by rfl) (hs : swapsWith (.Call (.Attribute (.Call (.Name "super" p0) [] [] p1) "__init__" p2) (e :: es) [] p3) none p4.line X.env = pure false := by rfl)
    (he : eval (.Call (.Attribute (.Call (.Name "super" p0) [] [] p1) "__init__" p2) (e :: es) [] p3) X.env = (do
      let ov ← attributeBase (.Call (.Name "super" p0) [] [] p1) "__init__" X.env (eval (.Call (.Name "super" p0) [] [] p1) X.env)
      standAt p2.atName
      let (f, first) ← holding [ov] (getMethod ov "__init__" pl)
      callWith p3 f first (backTo p3 (starEach (e :: es) X.env)) []) := by rfl)
    (hst : starEach (e :: es) X.env = (false, eval e X.env) :: starEach es X.env := by rfl) (hpl : (backTo p3 (starEach es X.env)).any (·.1) = false := by rfl) :
    PAt X body (.Expr (.Call (.Attribute (.Call (.Name "super" p0) [] [] p1) "__init__" p2) (e :: es) [] p3) p4) (tSupB X.K i j ta) := by
  intro pins s σ H D I ⟨a, C, Dc, b, h1, h2, ea, T, TC, hm, hB, h⟩
  refine ks_wpAt_Expr_any ?_ hi hs
  refine ks_wpAt_MethodCall (pl := pl) ?_ he
  refine sup_base S TC I h1 h2 ea (by decide) fun so s1 I1 hso => ?_
  obtain ⟨cd, hc, hal⟩ := sup_mro hm
  obtain ⟨t1, hoe⟩ := exo_at I1.hok ea
  have J1 : PySem.W.InstAt s1.heap a ({ cls := .ref C, dict := none, data := .fields #[.ref t1, .none, .none, .none, .bool false, .none] } : Obj) C none := ⟨hoe, rfl, rfl, trivial⟩
  have hI : PySem.W.Looks (model X.prog X.w) s1.heap (isInstance (.ref a) (.type (PySem.ZEX.baseX b))) true := J1.type.andThen (PySem.W.looks_subIn I1.kIn hB)
  obtain ⟨hh, g, dr, t, os⟩ := s1
  refine PySem.W.kxs_getMethod (PySem.ZEX.kxsX b) hso (PySem.W.looks_opaque I1.kIn TC.st) (looks_mro I1.kIn hc) rfl I1.kIn hal hI (exo_ne I1 ea TC.icC) (by decide) ?_
  have I2 : Inv X ((hh.objs.size, PySem.W.kxs_mw (PySem.ZEX.initIdX b) a) :: pins) σ H ⟨hh.push (PySem.W.kxs_mw (PySem.ZEX.initIdX b) a), g, dr, t + 1, os⟩ :=
    pin_new (t' := t + 1) I1 (fun _ _ z => Heap.get?_push_of_some _ z) (Nat.le_refl _) (Heap.get?_push_size hh rfl) (fun v z => nomatch z)
  show wpAny _ _ (callWith p3 (.ref hh.objs.size) [] (backTo p3 (starEach (e :: es) X.env)) []) _ _ _
  have hrun := ha.run p3 _ _ σ H _ I2 h
  rw [hst] at hrun ⊢
  refine PySem.W.kxs_callWith (i := PySem.ZEX.initIdX b) (x := a) (by show (false || (backTo p3 (starEach es X.env)).any (·.1)) = false; rw [hpl]; rfl) ?_
  refine evalArgs_plain (thn hrun fun us s3 ⟨vs, H1, I3, rv, hz, ea3, q⟩ => ⟨pin_at I3, ?_⟩)
  obtain ⟨nm, qn, N, bs, bm, sn, sub, ab, col, dd, k0, k1, k2, k3, k5, hC, hbm⟩ := T.cls
  obtain ⟨t3, hoe3⟩ := exo_at I3.hok ea3
  obtain ⟨h3, g3, d3, tk3, os3⟩ := s3
  have hlen : us.length ≤ sizeLine := by
    rw [← Paired.length rv, sizeLine_eq]
    omega
  refine PySem.ZEX.super_call b (I3.kIn _ _ hC) hoe3 (pin_at I3) hlen fun h' t4 k hx => ?_
  have J := I3.write (t' := tk3) (x := a) (e := a) (o := exo a C none) (by rw [ea3]; exact True.intro) (.inl rfl) k ⟨_, hx⟩ (exo_ok hx)
  have eu : upd H1 a (exo a C none) = H1 := by
    funext b
    by_cases hb : b = a
    · rw [hb, upd_same, ea3]
    · rw [upd_ne hb]
  rw [eu] at J
  exact ⟨σ, H1, unpin J, q⟩
/-- super().__init__(..) where it is an own one -/
def tSupO (K : PySem.W.Frag) (i j : Nat) (f2 : Addr) (sp : Sp) (ta : TA) : TS := fun D σ H => ∃ (a C Dc : Addr), σ[i]? = some (some (.ref a)) ∧ σ[j]? = some (some (.ref Dc)) ∧ H a = some (exo a C none) ∧ SupC K C Dc ∧
  PySem.W.ks_superIn K C Dc "__init__" = some (some (.ref f2)) ∧ ta σ H fun vs H1 => sp (.ref a :: vs) H1 (fun _ H2 => D.nx σ H2) (fun _ _ _ => False)
theorem ps_supO {body : List Stmt} {self : Str} {i j : Nat} {e : Expr} {es : List Expr} {ta : TA} {p0 p1 p2 p3 p4 : Pos} {pl : Sem Bool} {CX : CXT} {k : Nat} {f2 : Addr} {sp : Sp} (S : SupF X self i j)
    (F : FnR X.prog X.w X.K X.mg X.base CX k f2 sp) (hr : Room k X.A) (hx : Passes CX X (fun _ _ _ => False)) (tf : PySem.W.typeIn X.K (.ref f2) = some (.type "function")) (ff : PySem.W.fnIn X.K f2 = true) (ha : PA X (e :: es) ta)
    (hi : interactive X.env = false := by rfl) (hs : swapsWith (.Call (.Attribute (.Call (.Name "super" p0) [] [] p1) "__init__" p2) (e :: es) [] p3) none p4.line X.env = pure false := by rfl)
    (he : eval (.Call (.Attribute (.Call (.Name "super" p0) [] [] p1) "__init__" p2) (e :: es) [] p3) X.env = (do
      let ov ← attributeBase (.Call (.Name "super" p0) [] [] p1) "__init__" X.env (eval (.Call (.Name "super" p0) [] [] p1) X.env)
      standAt p2.atName
      let (f, first) ← holding [ov] (getMethod ov "__init__" pl)
      callWith p3 f first (backTo p3 (starEach (e :: es) X.env)) []) := by rfl)
    (hst : starEach (e :: es) X.env = (false, eval e X.env) :: starEach es X.env := by rfl) (hpl : (backTo p3 (starEach es X.env)).any (·.1) = false := by rfl) :
    PAt X body (.Expr (.Call (.Attribute (.Call (.Name "super" p0) [] [] p1) "__init__" p2) (e :: es) [] p3) p4) (tSupO X.K i j f2 sp ta) := by
  intro pins s σ H D I ⟨a, C, Dc, h1, h2, ea, TC, hm, h⟩
  refine ks_wpAt_Expr_any ?_ hi hs
  refine ks_wpAt_MethodCall (pl := pl) ?_ he
  refine sup_base S TC I h1 h2 ea (by decide) fun so s1 I1 hso => ?_
  obtain ⟨cd, hc, hal⟩ := sup_mro hm
  obtain ⟨of, hof, hofc⟩ : ∃ of, s1.heap.get? f2 = some of ∧ of.cls = .type "function" := by
    have tf' : (X.K.lookup f2).map (·.cls) = some (.type "function") := tf
    cases z : X.K.lookup f2 with
    | none => rw [z] at tf'; cases tf'
    | some of => rw [z] at tf'; exact ⟨of, I1.kIn _ _ z, Option.some.inj tf'⟩
  have hb := base_none I1 (Nat.le_refl _)
  obtain ⟨hh, g, dr, t, os⟩ := s1
  refine ks_wpAny_getMethod_super hso (PySem.W.looks_opaque I1.kIn TC.st) (looks_mro I1.kIn hc) rfl I1.kIn hal hof hofc (exo_ne I1 ea TC.icC) (by decide) ?_
  have I2 : Inv X ((hh.objs.size, PySem.W.methodObj (.ref f2) (.ref a)) :: pins) σ H ⟨hh.push (PySem.W.methodObj (.ref f2) (.ref a)), g, dr, t + 1, os⟩ :=
    pin_new (t' := t + 1) I1 (fun _ _ z => Heap.get?_push_of_some _ z) (Nat.le_refl _) (Heap.get?_push_size hh rfl) (fun v z => nomatch z)
  show wpAny _ _ (callWith p3 (.ref hh.objs.size) [] (backTo p3 (starEach (e :: es) X.env)) []) _ _ _
  refine callwith_cm (C := a) (g := f2) I2 hb ff (thn (ha.run p3 _ _ σ H _ I2 h) fun us s3 ⟨vs, H1, I3, rv, q⟩ => ⟨⟨pin_at I3, I3.kIn⟩, ?_⟩) hst hpl
  have z := run_cm F hr hx I3 rv q
  exact thn z fun u s4 ⟨v, H2, I4, _, q4⟩ => ⟨σ, H2, I4, q4⟩
end
end L2

set_option Elab.async false
set_option linter.all false
set_option maxRecDepth 100000
set_option maxHeartbeats 4000000
namespace L2
open PySem PySem.Spec PySem.Calls PyProof.Rows NdefX ClX
/-! ### a method that says super(): its text, where it stands -/
def nfS (st : Stmt) (x qual : Str) (cc cda : Addr) : NF := ⟨x, qual, defArgs st, defBody st, defScope st, [("__class__", cc)], cda⟩
structure FunS (P : Program) (K : PySem.W.Frag) (mg : Str → Option Value) (x qual : Str) (st : Stmt) (f : Addr) (fd : FuncData) (cda cc Dc : Addr) : Prop where
  ex : ∃ (oc : Value) (od : Option Addr) (kV doc pm : Value) (an : Option Addr) (ct : Value) (osl : Array (Option Value)),
    fd = PySem.W.ksFn x qual (defArgs st) (defBody st) (defScope st) .none kV doc pm an (.ref cda) ct cc ∧ K.lookup f = some ⟨oc, od, .func fd, osl⟩ ∧ PySem.W.codeIn K (.ref cda) qual = true
  cell : ∃ (oc : Value) (od : Option Addr) (osl : Array (Option Value)), K.lookup cc = some ⟨oc, od, .cell (some (.ref Dc)), osl⟩
  code : ∃ (oc : Value) (od : Option Addr) (vs : Array Value) (osl : Array (Option Value)) (file : Str) (tf : Tok), K.lookup cda = some ⟨oc, od, .fields vs, osl⟩ ∧ vs[2]? = some (.str file tf) ∧ ((P.main.file : Str) == file) = true
  kp : PySem.W.keepIn K (.ref f) = true
  ty : PySem.W.typeIn K (.ref f) = some (.type "function")
  fn : PySem.W.fnIn K f = true
  top : (P.main.scope.names.lookup ("super" : Str)).isSome = false
  mg : mg "super" = none
section
variable {CX : CXT} {P : Program} {w : World} {K : PySem.W.Frag} {mg : Str → Option Value} {base : Heap} {N ps : List Str} {x qual : Str} {st : Stmt} {f cda cc Dc : Addr} {fd : FuncData} {A : Around} {outer : List Env} {s : Shared} {H : Hp} {E : XK} {k : Nat} {sp : Sp}
theorem FunS.sup (FS : FunS P K mg x qual st f fd cda cc Dc) {sf : Str} {i j : Nat} (h1 : (defScope st).names.lookup ("super" : Str) = some .globalImplicit) (h2 : (defScope st).names.lookup ("__class__" : Str) = some .free) (h3 : (defScope st).names.lookup sf = some .local)
    (hp : (((defArgs st).posonlyargs ++ (defArgs st).args).head?).map (·.arg) = some sf) (ni : N[i]? = some sf) (nj : N[j]? = some "__class__") : SupF (ncx CX P w K mg base N (nfS st x qual cc cda) f A outer s H E) sf i j := by
  obtain ⟨oc, od, kV, doc, pm, an, ct, osl, rfl, lk, _⟩ := FS.ex
  obtain ⟨ar, ha, he⟩ := Option.map_eq_some_iff.mp hp
  obtain ⟨occ, odc, vs, oslc, file, tf, lc, hv, hf⟩ := FS.code
  exact ⟨h1, h2, h3, ni, nj, FS.mg, ⟨f, oc, od, _, osl, ar, rfl, lk, ha, he⟩, ⟨cda, occ, odc, vs, oslc, file, tf, rfl, lc, hv, hf⟩, FS.top⟩
theorem FunS.binds (FS : FunS P K mg x qual st f fd cda cc Dc)
    (h : ∀ (kV doc pm : Value) (an : Option Addr) (ct : Value) (us : List Value), us.length = ps.length → bindArgs (PySem.W.ksFn x qual (defArgs st) (defBody st) (defScope st) .none kV doc pm an (.ref cda) ct cc) ⟨us, []⟩ = pure (ps.zip us)) : Binds K fd ps [] := by
  obtain ⟨oc, od, kV, doc, pm, an, ct, osl, rfl, lk, _⟩ := FS.ex
  exact .all (h kV doc pm an ct)
/-- THE RULE: such a method by its body, the first statement run where the def is known -/
theorem FunS.ok (FS : FunS P K mg x qual st f fd cda cc Dc) {st0 : Stmt} {rest : List Stmt} (hst : defBody st = st0 :: rest) (S : NScope N ps ["__class__"] (defScope st)) (len : ∀ vs H Q E, sp vs H Q E → vs.length = ps.length)
    (hbody : ∀ (A : Around) (outer : List Env) (s : Shared) (H : Hp) (vs : List V) (Q : VK) (E : XK), Room k (A.deeper (envF (nfS st x qual cc cda) f s.heap.objs.size)) → sp vs H Q E →
      ∃ t0 t1, PAt (ncx CX P w K mg base N (nfS st x qual cc cda) f A outer s H E) (st0 :: rest) st0 t0 ∧ PSs (ncx CX P w K mg base N (nfS st x qual cc cda) f A outer s H E) rest t1 ∧
        t0 { nx := fun σ H' => t1 { nx := fun _ H' => Q .non H', rt := Q } σ H', rt := Q } (startF N vs [some (.ref Dc)]) H) : FnOk P w K mg base CX (k + 1) f fd ps sp := by
  obtain ⟨oc, od, kV, doc, pm, an, ct, osl, rfl, lk, hcd⟩ := FS.ex
  obtain ⟨occ, odc, oslc, lc⟩ := FS.cell
  refine ⟨len, fun A outer s H args us vs Q E hr e0 hb r hsp => ?_⟩
  have hl := len _ _ _ _ hsp
  have KX : K.In s.heap := e0.mod.kin.keeps fun b o e => (e0.bs b o e).1
  have lim : s.heap.NoLimit := e0.mod.nolimit.keeps fun b o e => (e0.bs b o e).1
  have hcc : H cc = none := (e0.bs cc _ (e0.mod.kin _ _ lc)).2
  have C : CellsAt [(("__class__" : Str), cc)] ["__class__"] [some (.ref Dc)] s.heap H := by
    refine ⟨rfl, fun y c e => ?_, fun y z c e1 e2 => ?_, fun i y e => ?_⟩
    · have e' : ([(("__class__" : Str), cc)] : List (Str × Addr)).lookup y = some c := e
      rw [List.lookup_cons] at e'
      split at e'
      · cases e'
        exact ⟨hcc, some (.ref Dc), _, KX _ _ lc, rfl⟩
      · cases e'
    · have f1 := PySem.mem_of_lookup e1
      have f2 := PySem.mem_of_lookup e2
      rw [List.mem_singleton] at f1 f2
      cases f1
      cases f2
      rfl
    · have hi : i = 0 ∧ y = "__class__" := by
        cases i with
        | zero =>
          cases e
          exact ⟨rfl, rfl⟩
        | succ i => simp at e
      obtain ⟨rfl, rfl⟩ := hi
      refine ⟨cc, by simp [List.lookup], fun v ev => ?_⟩
      cases ev
      exact ⟨.ref Dc, rfl, _, KX _ _ lc, rfl⟩
  refine ks_codeAny_call_defAt (fd := PySem.W.ksFn x qual (defArgs st) (defBody st) (defScope st) .none kV doc pm an (.ref cda) ct cc) (body := defBody st) (binds := ps.zip us) hr.depth (KX _ _ lk) rfl lim (PySem.W.codeRec_of KX hcd) rfl hb S.nocell
    (fun y hy => S.par y.1 (List.of_mem_zip (show (y.1, y.2) ∈ ps.zip us from hy)).1) (fun h₁ hns kp => ?_) S.co S.gen S.kind
  show PySem.wpAt _ (A.deeper (envF (nfS st x qual cc cda) f s.heap.objs.size)) (.func (defBody st) (envF (nfS st x qual cc cda) f s.heap.objs.size)) (execs (defBody st) (envF (nfS st x qual cc cda) f s.heap.objs.size)) _ _ _
  obtain ⟨t0, t1, h0, h1, hq⟩ := hbody A outer s H vs Q E (hr.deeper _) hsp
  have I : Inv (ncx CX P w K mg base N (nfS st x qual cc cda) f A outer s H E) [] (startF N vs [some (.ref Dc)]) H { s with heap := h₁, toks := s.toks + (ps.zip us).length } := inv_startN (F := nfS st x qual cc cda) S hr.hd e0 hl r C hns kp
  have fin : ∀ {s' : Shared} {σ' : L2.St} {H' : Hp} {v : V} {u : Value}, Inv (ncx CX P w K mg base N (nfS st x qual cc cda) f A outer s H E) [] σ' H' s' → L2.RelV v u → Q v H' → CE outer P w H s Q u s' :=
    fun {s' σ' H' v u} J rv q => ⟨v, H', J.os, J.bare, J.base, J.hok, rv, q⟩
  have key : ∀ (fl : Flow) (s' : Shared), SP (ncx CX P w K mg base N (nfS st x qual cc cda) f A outer s H E) [] { nx := fun _ H' => Q .non H', rt := Q } fl s' → CR CX outer P w H s Q E (.ok (.ret (match fl with | .ret v => v | _ => .none))) s' := fun fl s' hs => by
    cases fl with
    | ret u =>
      obtain ⟨v, σ', H', J, rv, q⟩ := hs
      exact fin J rv q
    | next =>
      obtain ⟨σ', H', J, q⟩ := hs
      exact fin (v := V.non) (u := Value.none) J rfl q
    | brk =>
      obtain ⟨_, _, _, q⟩ := hs
      exact False.elim q
    | cont =>
      obtain ⟨_, _, _, q⟩ := hs
      exact False.elim q
  rw [hst]
  refine ks_wpAt_execs_cons (ks_wpAt_mono (h0 [] _ _ H _ I hq) (fun fl s' hs => ?_) fun e s' hs => hs)
  cases fl with
  | next =>
    obtain ⟨σ', H', J, q⟩ := hs
    exact wpAt_of_wpAny (wpAny_mono (h1.run [] s' σ' H' _ J q) key fun e s' hs => hs)
  | ret u =>
    obtain ⟨v, σ', H', J, rv, q⟩ := hs
    exact fin J rv q
  | brk =>
    obtain ⟨_, _, _, q⟩ := hs
    exact False.elim q
  | cont =>
    obtain ⟨_, _, _, q⟩ := hs
    exact False.elim q
end
/-! ### making such an exception -/
section
variable {X : Cx} {e : Expr} {es : List Expr} {ta : TA} {p pos : Pos}
theorem pmk_ox {CX : CXT} {x : Str} {b : Bool} {C fI : Addr} {k : Nat} {fd : FuncData} {ps : List Str} {sp : Sp} {ds : List Value} {dvs : List V} (T : OxC X.K b C) (iC : PySem.W.findIn X.K (.ref C) "__init__" = some (some (.ref fI))) (tI : PySem.W.typeIn X.K (.ref fI) = some (.type "function"))
    (F1 : FnOk X.prog X.w X.K X.mg X.base CX k fI fd ps sp) (hr : Room (k + 1) X.A) (hb : Binds X.K fd ps ds) (hd : Vals dvs ds) (hx : Passes CX X (fun _ _ _ => False)) (hg : Gl X x) (hm : X.mg x = some (.ref C)) (ha : PA X (e :: es) ta)
    (hdb : (x == ("__debug__" : Str)) = false := by decide) (he : starEach (e :: es) X.env = (false, eval e X.env) :: starEach es X.env := by rfl) (hpl : (backTo pos (starEach es X.env)).any (·.1) = false := by rfl) :
    PMk X (.Call (.Name x p) (e :: es) [] pos) (tMkO C sp dvs ta) := by
  intro pins s σ H Q I h
  obtain ⟨nm, q, N, bs, bm, sn, sub, ab, col, dd, k0, k1, k2, k3, k5, hC, hbm⟩ := T.cls
  refine wpAny_Call_Name_kw (ld_glob I hg hm ?_ hdb)
  refine PySem.W.callWith_K (h₀ := X.base) I.ok.mod.kin T.kC (thn (ha.run pos pins s σ H _ I h) fun us s1 ⟨vs, H1, I1, r1, hz, q1⟩ => ⟨I1.kIn, ?_⟩) he hpl
  show wpAny _ _ (call (.ref C) us) _ _ _
  obtain ⟨hp, g, dr, tk, os⟩ := s1
  have hsz : hp.objs.size ≤ hp.objs.size + 1 := Nat.le_succ _
  have hn : H1 (hp.objs.size + 1) = none := I1.hok.fresh hsz
  have hq := q1 (hp.objs.size + 1) hn
  have kk : ∀ b o, hp.get? b = some o → ((hp.push (PySem.W.kdv_tup us)).push (PySem.HandSPX.excO C hp.objs.size)).get? b = some o := fun b o e => Heap.get?_push_of_some _ (Heap.get?_push_of_some _ e)
  have hget : ((hp.push (PySem.W.kdv_tup us)).push (PySem.HandSPX.excO C hp.objs.size)).get? (hp.objs.size + 1) = some (PySem.HandSPX.excO C hp.objs.size) := by heap_get
  have I2 : Inv X pins σ (upd H1 (hp.objs.size + 1) (exo (hp.objs.size + 1) C none)) ⟨(hp.push (PySem.W.kdv_tup us)).push (PySem.HandSPX.excO C hp.objs.size), g, dr, tk, os⟩ :=
    I1.laid (t' := tk) (a := hp.objs.size + 1) (o := exo (hp.objs.size + 1) C none) (h' := (hp.push (PySem.W.kdv_tup us)).push (PySem.HandSPX.excO C hp.objs.size)) kk hsz (exo_ok hget)
  have r2 : Vals (V.ref (hp.objs.size + 1) :: (vs ++ dvs)) (Value.ref (hp.objs.size + 1) :: (us ++ ds)) := .cons rfl (r1.append hd)
  have hl : (Value.ref (hp.objs.size + 1) :: us ++ ds).length = ps.length := by
    have e := r2.length
    rw [F1.len _ _ _ _ hq] at e
    exact e.symm
  have hus : us.length ≤ sizeLine := by
    rw [← Paired.length r1, sizeLine_eq]
    omega
  refine wpAny_call (PySem.ZEX.callB b hbm (I1.kIn _ _ hC) (PySem.W.looks_findIn I1.kIn iC) (fun self => PySem.W.bind_fn I1.kIn self tI) hus
    (codeAny_mono (F1.run _ X.stack _ _ ⟨Value.ref (hp.objs.size + 1) :: us, []⟩ (Value.ref (hp.objs.size + 1) :: (us ++ ds)) _ _ (fun _ _ _ => False) (hr.make C us []) (I2.env0.make C us []) (hb _ (Value.ref (hp.objs.size + 1) :: us) I2.kIn hl) r2 hq) fun r s' hq' => ?_))
  cases r with
  | error er => exact hx pins σ _ _ er s' I2 hq'
  | ok fl =>
    cases fl with
    | ret u =>
      obtain ⟨v, H2, os2, bare2, un2, hok2, rv, ev, d, fs, ea, ed, hd1, q2⟩ := hq'
      subst ev
      obtain ⟨h2, g2, d2, t2, os'⟩ := s'
      exact ⟨rv, mk_end (raises_own T.exC T.tyC) I1 hsz kk un2 hok2 os2 bare2 ea ed hd1 q2⟩
    | next => exact False.elim hq'
    | brk => exact False.elim hq'
    | cont => exact False.elim hq'
/-- the heap behind the making -/
theorem mk_heap {H : Hp} {a d : Addr} {o : HO} {u : HO} {v : HO} (ha : H a = none) (hd : d ≠ a) : upd (del (upd (upd (upd H a o) d u) a v) a) d w = upd H d w := by
  funext b
  by_cases hb : b = d
  · rw [hb, upd_same, upd_same]
  · rw [upd_ne hb, upd_ne hb]
    by_cases hc : b = a
    · rw [hc, del_same, ha]
    · rw [del_ne hc, upd_ne hc, upd_ne hb, upd_ne hc]
end
/-! ### the promises of the three kinds of __init__ -/
structure PkC (K : PySem.W.Frag) (b : Bool) (Dc C : Addr) (nm : Str) : Prop where
  ox : OxC K b C
  nc : NmC K C nm
  sc : SupC K C Dc
  si : PySem.W.ks_superIn K C Dc "__init__" = some (some (.builtin (PySem.ZEX.initIdX b)))
  sb : PySem.W.subIn K (.ref C) (.type (PySem.ZEX.baseX b)) = some true
  no : PySem.W.findIn K (.ref C) "called" = some none
/-- __init__(self, reason): super().__init__(reason), self.called = .. -/
def spPike (K : PySem.W.Frag) (Dc : Addr) : Sp := fun vs H Q _ => ∃ (a C : Addr) (nm : Str) (v : V), vs = [.ref a, v] ∧ H a = some (exo a C none) ∧ PkC K false Dc C nm ∧
  ∀ dx, H dx = none → dx ≠ a → Q .non (upd (upd H dx (exd dx [("called", .str nm)])) a (exo a C (some dx)))
/-- __init__(self, n): super().__init__(f"..") of PikeError, self.f = n -/
def spPlace (K : PySem.W.Frag) (Dp Dc : Addr) (fp : Addr) (f : Str) : Sp := fun vs H Q _ => ∃ (a C : Addr) (nm : Str) (n : Int), vs = [.ref a, .int n] ∧ H a = some (exo a C none) ∧ PkC K false Dp C nm ∧ SupC K C Dc ∧
  PySem.W.ks_superIn K C Dc "__init__" = some (some (.ref fp)) ∧ PySem.W.findIn K (.ref C) f = some none ∧ n.natAbs.log2 < 1920 ∧
  ∀ dx, H dx = none → dx ≠ a → Q .non (upd (upd (upd H dx (exd dx [("called", .str nm)])) a (exo a C (some dx))) dx (exd dx [(f, .int n), ("called", .str nm)]))
theorem nameIn_of {K : PySem.W.Frag} {nm q nm2 : Str} {C N : Addr} {bs bm sub : List Value} {hdct : Bool} {sn : List Str} {ab : Bool} {col : Option Bool} {dd : Option Addr} {k0 k1 k2 k3 k5 : Option Value} {newId : String} {t : Tok} (h : K.lookup C = some (excClassObj nm q C N bs bm hdct sn sub ab col dd k0 k1 k2 k3 k5 newId))
    (hk : k2 = some (.str nm2 t)) : PySem.ZEX.nameIn K C = some (.str nm2 t) := by
  unfold PySem.ZEX.nameIn
  rw [h]
  subst hk
  rfl
section
variable {K : PySem.W.Frag} {Dc C : Addr} {nm : Str} {H : Hp} {Q : XK}
/-- the wish behind C(v) -/
abbrev MkQ (C : Addr) (H : Hp) (Q : XK) (a : Addr) : VK := fun v H2 => v = .non ∧ ∃ (d : Addr) (fs : List (Str × V)), H2 a = some (exo a C (some d)) ∧ H2 d = some (exd d fs) ∧ H d = none ∧ Q (.ref C) (some d) (upd (del H2 a) d (.xd fs))
theorem use_pike {v : V} (T : PkC K false Dc C nm) (k : ∀ d, H d = none → Q (.ref C) (some d) (upd H d (.xd [("called", .str nm)]))) :
    [v].length ≤ 1000 ∧ ∀ a, H a = none → spPike K Dc (.ref a :: ([v] ++ [])) (upd H a (exo a C none)) (MkQ C H Q a) (fun _ _ _ => False) := by
  refine ⟨by show 1 ≤ 1000; decide, fun a ha => ⟨a, C, nm, v, rfl, upd_same, T, fun dx hdx hne => ⟨rfl, dx, [("called", .str nm)], upd_same, ?_, ?_, ?_⟩⟩⟩
  · rw [upd_ne hne, upd_same]
  · rw [upd_ne hne] at hdx
    exact hdx
  · rw [mk_heap ha hne]
    rw [upd_ne hne] at hdx
    exact k dx hdx
theorem mk_heap2 {H : Hp} {a d : Addr} {o u v u2 z : HO} (ha : H a = none) (hd : d ≠ a) : upd (del (upd (upd (upd (upd H a o) d u) a v) d u2) a) d z = upd H d z := by
  funext b
  by_cases hb : b = d
  · rw [hb, upd_same, upd_same]
  · rw [upd_ne hb, upd_ne hb]
    by_cases hc : b = a
    · rw [hc, del_same, ha]
    · rw [del_ne hc, upd_ne hb, upd_ne hc, upd_ne hb, upd_ne hc]
theorem use_place {Dp fp : Addr} {f : Str} {n : Int} (T : PkC K false Dp C nm) (sc : SupC K C Dc) (so : PySem.W.ks_superIn K C Dc "__init__" = some (some (.ref fp))) (hno : PySem.W.findIn K (.ref C) f = some none) (hz : n.natAbs.log2 < 1920)
    (k : ∀ d, H d = none → Q (.ref C) (some d) (upd H d (.xd [(f, .int n), ("called", .str nm)]))) :
    [V.int n].length ≤ 1000 ∧ ∀ a, H a = none → spPlace K Dp Dc fp f (.ref a :: ([V.int n] ++ [])) (upd H a (exo a C none)) (MkQ C H Q a) (fun _ _ _ => False) := by
  refine ⟨by show 1 ≤ 1000; decide, fun a ha => ⟨a, C, nm, n, rfl, upd_same, T, sc, so, hno, hz, fun dx hdx hne => ⟨rfl, dx, [(f, .int n), ("called", .str nm)], ?_, upd_same, ?_, ?_⟩⟩⟩
  · rw [upd_ne hne.symm, upd_same]
  · rw [upd_ne hne] at hdx
    exact hdx
  · rw [mk_heap2 ha hne]
    rw [upd_ne hne] at hdx
    exact k dx hdx
end
theorem log_small {n : Int} (h1 : -(2 ^ 200) ≤ n) (h2 : n ≤ 2 ^ 200) : n.natAbs.log2 < 1920 := by
  have h3 : n.natAbs ≤ 2 ^ 200 := by omega
  by_cases h0 : n.natAbs = 0
  · rw [h0]
    decide
  · rw [Nat.log2_lt h0]
    exact Nat.lt_of_le_of_lt h3 (Nat.pow_lt_pow_right (by decide) (by decide))
end L2

set_option Elab.async false
set_option linter.all false
set_option maxRecDepth 100000
set_option maxHeartbeats 4000000
/-! several except clauses, with names and without -/
namespace L2
open PySem PySem.Spec PySem.Calls PyProof.Rows
abbrev TsX := Addr → Value → Option Addr → TS
/-- what stands behind a suite that had a name -/
abbrev Ends.unnamed (D : Ends) (i : Nat) : Ends := { nx := fun σ H => D.nx (σ.set i none) H, rt := D.rt, bk := fun σ H => D.bk (σ.set i none) H, ct := fun σ H => D.ct (σ.set i none) H }
def wMix (K : PySem.W.Frag) (Wout : WX) (D : Ends) : List (Value × Option Nat × TsX) → WX
  | [] => Wout
  | (c, oi, ts) :: r => fun cls d σ H => ∃ b, PySem.W.exmOne K cls c = some b ∧
      (b = true → ∀ a, H a = none → match oi with | none => ts a cls d D σ H | some i => ts a cls d (D.unnamed i) (σ.set i (some (.ref a))) H) ∧ (b = false → wMix K Wout D r cls d σ H)
/-- an exception that was caught, ahead of the clauses -/
structure Air (X : Cx) (pins : List (Addr × Obj)) (σ : St) (H : Hp) (sI : Shared) (B : Heap) (a : Addr) (cls : Value) (d : Option Addr) (s : Shared) : Prop where
  inv : Inv X pins σ H sI
  nb : ∀ b o, sI.heap.get? b = some o → b ∉ frs X.stack → B.get? b = some o
  up : sI.heap.UpToSlots s.heap
  fl : HandSPX.FlyingZ B (X.env :: X.outer) a (Zc cls d) s.heap
  na : H a = none
  os : s.os = sI.os
  ag : AllBare s.gens
section
variable {X : Cx} {pins : List (Addr × Obj)} {σ : St} {H : Hp} {sI s : Shared} {B : Heap} {a : Addr} {cls : Value} {d : Option Addr} {D : Ends} {Wout : WX}
theorem Air.land (C : Air X pins σ H sI B a cls d s) : Inv X pins σ H s := C.inv.landed C.nb C.fl.1 C.up C.os C.ag
theorem Air.off (C : Air X pins σ H sI B a cls d s) (hf : X.env.frame = some X.env.locals) : a ≠ X.env.locals ∧ a ∉ X.fs := by
  obtain ⟨oe, vs, he, _, hd⟩ := C.fl.there
  have no : a ∉ frs (X.env :: X.outer) := fun hm => by
    obtain ⟨_, o, e, q⟩ := C.fl.2.2.1.mem hm
    cases he.symm.trans e
    exact q _ hd
  exact ⟨fun z => no (List.mem_filterMap.mpr ⟨X.env, List.mem_cons_self, by rw [hf, z]⟩), fun hm => by
    obtain ⟨e, h1, h2⟩ := List.mem_filterMap.mp hm
    exact no (List.mem_filterMap.mpr ⟨e, List.mem_cons_of_mem _ h1, h2⟩)⟩
/-- in a suite -/
theorem Air.in_ (C : Air X pins σ H sI B a cls d s) (hf : X.env.frame = some X.env.locals) : ∃ oe, Zc cls d oe ∧ (∃ vs, oe.data = .fields vs) ∧ s.heap.get? a = some oe ∧ Inv (X.suite a ((a, oe) :: (X.pn ++ pins))) [] σ H s := by
  obtain ⟨oe, vs, he, hz, hd⟩ := C.fl.there
  exact ⟨oe, hz, ⟨vs, hd⟩, he, C.land.suite he hd C.na (C.off hf).1 (C.off hf).2⟩
/-- no clause is left: it goes on -/
theorem Air.out (C : Air X pins σ H sI B a cls d s) (hs : X.stack = X.env :: X.outer) (hf : X.env.frame = some X.env.locals) (tk : Takes X Wout) (w : Wout cls d σ H) : wpAny (model X.prog X.w) X.A (handleBy (.ref a) X.env []) (SP X pins D) X.xe s := by
  refine wpAny_handleBy_nil ?_
  have fl := C.fl
  obtain ⟨_, _, _, oe, vs, T, oT, ts', he, hz, hd, h1, hr⟩ := id fl
  have go : wpAny (model X.prog X.w) X.A (setFlight (.ref a) X.env.frame) (fun _ s4 => wpAny (model X.prog X.w) X.A (throw (.ref a) : Sem Flow) (SP X pins D) X.xe s4) X.xe s := by
    rw [hf]
    refine HandSPX.setFlight_upZ fl fun h4 hh4 up4 => wpAny_throw (tk _ _ ?_)
    exact ⟨a, B, sI, pins, σ, H, cls, d, rfl, C.inv, C.nb, C.up.trans up4, .inr (.inr (by rw [hs]; exact hh4)), C.na, C.os, C.ag, w⟩
  unfold PySem.passOn
  refine wpAny_bind (wpAny_field he hd h1 ?_)
  rw [if_neg (show ¬ ((Value.ref T == Value.none) = true) from by simp)]
  first
    | exact wpAny_bind (wpAny_pure (wpAny_bind go))
    | exact wpAny_bind go
/-- a clause's test -/
theorem Air.asks (C : Air X pins σ H sI B a cls d s) (hf : X.env.frame = some X.env.locals) {x : Str} {c : Value} {np : Pos} {b : Bool} {R : Bool → Shared → Prop} {E : Value → Shared → Prop} (hc : Names X x c) (hb : PySem.W.exmOne X.K cls c = some b) (k : R b s) :
    wpAny (model X.prog X.w) (X.A.mark (some (.ref a))) (eval (.Name x np) X.env) (fun t s1 => wpAny (model X.prog X.w) (X.A.mark (some (.ref a))) (excMatches (.ref a) t) R E s1) E s := by
  obtain ⟨oe, hz, _, he, S⟩ := C.in_ hf
  have LT : PySem.W.Looks (model X.prog X.w) s.heap (typeOf (.ref a)) cls := fun A Q E s k q => wpAny_typeOf_ref (k _ _ he) (by rw [hz.1]; exact q)
  have LM := PySem.W.exm_one (M := model X.prog X.w) C.land.kIn LT hb
  obtain ⟨hg, hdb, hm | ⟨hm, hv, hn⟩⟩ := hc
  · exact ld_glob (X := X.suite a ((a, oe) :: (X.pn ++ pins))) S hg hm (LM.here k) hdb
  · exact ld_blt (X := X.suite a ((a, oe) :: (X.pn ++ pins))) S hg hm hv (LM.here k) hn hdb
end
inductive HdsM (X : Cx) : List ExceptHandler → List (Value × Option Nat × TsX) → Prop
  | nil : HdsM X [] []
  | cons {x : Str} {c : Value} {ts : TsX} {b₀ : Stmt} {suite : List Stmt} {np p' : Pos} {hds : List ExceptHandler} {l : List (Value × Option Nat × TsX)} : Names X x c →
      (∀ (a : Addr) (oe : Obj) (cls : Value) (d : Option Addr) (pn : List (Addr × Obj)), Zc cls d oe → (∃ vs, oe.data = .fields vs) → PSs (X.suite a ((a, oe) :: pn)) (b₀ :: suite) (ts a cls d)) → HdsM X hds l →
      HdsM X (.ExceptHandler (some (.Name x np)) none (b₀ :: suite) p' :: hds) ((c, none, ts) :: l)
  | as {x n : Str} {c : Value} {i : Nat} {ts : TsX} {b₀ : Stmt} {suite : List Stmt} {np p' : Pos} {hds : List ExceptHandler} {l : List (Value × Option Nat × TsX)} : X.N[i]? = some n → X.env.kindOf n = some .local → Names X x c →
      (∀ (a : Addr) (oe : Obj) (cls : Value) (d : Option Addr) (pn : List (Addr × Obj)), Zc cls d oe → (∃ vs, oe.data = .fields vs) → PSs (X.suite a ((a, oe) :: pn)) (b₀ :: suite) (ts a cls d)) → HdsM X hds l →
      HdsM X (.ExceptHandler (some (.Name x np)) (some n) (b₀ :: suite) p' :: hds) ((c, some i, ts) :: l)
section
variable {X : Cx} {pins : List (Addr × Obj)} {σ : St} {H : Hp} {sI s : Shared} {B : Heap} {a : Addr} {cls : Value} {d : Option Addr} {D : Ends} {Wout : WX}
theorem Air.clauses (C : Air X pins σ H sI B a cls d s) (hs : X.stack = X.env :: X.outer) (hf : X.env.frame = some X.env.locals) (hN : X.N.Nodup) (tk : Takes X Wout) {hds : List ExceptHandler} {l : List (Value × Option Nat × TsX)} (hk : HdsM X hds l) :
    wMix X.K Wout D l cls d σ H → wpAny (model X.prog X.w) X.A (handleBy (.ref a) X.env hds) (SP X pins D) X.xe s := by
  have ok := C.inv.ok
  induction hk with
  | nil => exact fun w => C.out hs hf tk w
  | @cons x c ts b₀ suite np p' hds l hc hsu r ih =>
    rintro ⟨b, hb, hy, hn⟩
    refine wpAny_handleBy_cons (codeAny_handlers_test (C.asks hf hc hb ?_)) (by intro q; cases q)
    cases b with
    | false => exact ih (hn rfl)
    | true =>
      refine codeAny_handlers_suite (HandSPX.lands_againZ C.fl fun h4 fl4 up4 => ?_)
      have C4 : Air X pins σ H sI B a cls d { s with heap := h4 } := ⟨C.inv, C.nb, C.up.trans up4, fl4, C.na, C.os, C.ag⟩
      obtain ⟨oe, hz, hd, _, S⟩ := C4.in_ hf
      refine wpAny_mono ((hsu a oe cls d (X.pn ++ pins) hz hd).run [] _ _ H _ S (hy rfl a C.na)) (fun f s6 q => ?_) fun _ _ z => False.elim z
      cases f with
      | ret u =>
        obtain ⟨v, σ6, H6, S6, r6, q⟩ := q
        exact ⟨v, σ6, H6, S6.unsuite ok, r6, q⟩
      | _ =>
        obtain ⟨σ6, H6, S6, q⟩ := q
        exact ⟨σ6, H6, S6.unsuite ok, q⟩
  | @as x n c i ts b₀ suite np p' hds l hi hl hc hsu r ih =>
    rintro ⟨b, hb, hy, hn⟩
    refine wpAny_handleBy_cons (codeAny_handlers_test (C.asks hf hc hb ?_)) (by intro q; cases q)
    cases b with
    | false => exact ih (hn rfl)
    | true =>
      refine codeAny_handlers_suite_as (HandSPX.lands_againZ C.fl fun h4 fl4 up4 => ?_)
      have C4 : Air X pins σ H sI B a cls d { s with heap := h4 } := ⟨C.inv, C.nb, C.up.trans up4, fl4, C.na, C.os, C.ag⟩
      obtain ⟨oe, hz, hd, _, S⟩ := C4.in_ hf
      refine store_ok (X := X.suite a ((a, oe) :: (X.pn ++ pins))) (v := .ref a) S hN hi (.inl hl) rfl (fun s5 S5 => ?_) (.inr hl)
      refine wpAny_mono ((hsu a oe cls d (X.pn ++ pins) hz hd).run [] s5 _ H _ S5 (hy rfl a C.na)) (fun f s6 q => ?_) fun _ _ z => False.elim z
      cases f with
      | ret u =>
        obtain ⟨v, σ6, H6, S6, r6, q⟩ := q
        exact gone_ok (S6.unsuite ok) hN hi hl fun s7 J7 => ⟨v, _, H6, J7, r6, q⟩
      | _ =>
        obtain ⟨σ6, H6, S6, q⟩ := q
        exact gone_ok (S6.unsuite ok) hN hi hl fun s7 J7 => ⟨_, H6, J7, q⟩
end
section
variable {X : Cx} {body : List Stmt} {h₀ : ExceptHandler} {hds : List ExceptHandler} {l : List (Value × Option Nat × TsX)} {pos : Pos} {tb : WX → TS} {Wout : WX}
theorem ps_try_mix (hs : X.stack = X.env :: X.outer) (hf : X.env.frame = some X.env.locals) (hN : X.N.Nodup) (tk : Takes X Wout)
    (hb : ∀ (W : WX) (pn : List (Addr × Obj)) (xe : Value → Shared → Prop), Takes (X.tr pn xe) W → PassesOwn (model X.prog X.w) X.A X.env xe → PSs (X.tr pn xe) body (tb W))
    (hh : HdsM X (h₀ :: hds) l) : PS X (.Try body (h₀ :: hds) [] [] pos) (fun D σ H => tb (wMix X.K Wout D l) D σ H) := by
  refine ⟨fun pins s σ H D I h => wpAny_Try_except ?_⟩
  have ok := I.ok
  have hfr : X.A.frames = some (X.env :: X.outer) := by rw [ok.frames, hs]
  refine wpAny_mono ((hb (wMix X.K Wout D l) (X.pn ++ pins) (fun e s₁ => wpAny (model X.prog X.w) X.A (noteFrame e X.env) (fun _ s₂ => wpAny (model X.prog X.w) X.A (setFlight e none) (fun _ s₃ =>
    wpAny (model X.prog X.w) X.A (handleBy e X.env (h₀ :: hds)) (SP X pins D) X.xe s₃) X.xe s₂) X.xe s₁) (fun u s' xx => ?_) PassesOwn.looking).run [] s σ H D (I.toTry _) h) (fun f s1 q => ?_) (fun e s1 he => he)
  · obtain ⟨a, B, sI, pins', σ', H', cls, d, rfl, J', nb, up, sky, na, os, ag, w⟩ := xx
    refine Sky.land (outer := X.outer) Zc.steady hfr hf (by rw [← hs]; exact sky) fun h3 fl3 up3 => ?_
    exact Air.clauses (s := { s' with heap := h3 }) ⟨J'.ofTry ok, nb, up.trans up3, fl3, na, os, ag⟩ hs hf hN tk hh w
  · cases f with
    | next =>
      obtain ⟨σ', H', J', q⟩ := q
      exact wpAny_execs_nil ⟨σ', H', J'.ofTry ok, q⟩
    | ret u =>
      obtain ⟨v, σ', H', J', r, q⟩ := q
      exact ⟨v, σ', H', J'.ofTry ok, r, q⟩
    | _ =>
      obtain ⟨σ', H', J', q⟩ := q
      exact ⟨σ', H', J'.ofTry ok, q⟩
end
/-- a def's own wish about exceptions, handed to a def that it calls -/
theorem passes_up {X : Cx} {E : XK} {W : WX} (tk : Takes X W) (h : ∀ cls d σ H, E cls d H → W cls d σ H) : Passes (L2.CX X.prog X.w) X E := passes_call tk h
theorem exm_sub {K : PySem.W.Frag} {S R : Addr} {b : Bool} (h1 : PySem.W.subIn K (.ref S) (.type "BaseException") = some true) (h2 : PySem.W.isClsIn K S = true) (h3 : PySem.W.typeIn K (.ref S) = some (.type "type")) (h4 : PySem.W.subIn K (.ref R) (.ref S) = some b) :
    PySem.W.exmOne K (.ref R) (.ref S) = some b := by
  unfold PySem.W.exmOne
  rw [if_pos (by rw [h1]; rfl)]
  have e2 : ((PySem.W.clsIn K S).isSome && PySem.W.typeIn K (.ref S) == some (.type "type")) = true := by
    have e3 : (PySem.W.clsIn K S).isSome = true := h2
    rw [e3, h3]
    rfl
  show (if ((PySem.W.clsIn K S).isSome && PySem.W.typeIn K (.ref S) == some (.type "type")) = true then PySem.W.subIn K (.ref R) (.ref S) else none) = some b
  rw [if_pos e2, h4]
section
variable {X : Cx} {CX : CXT} {k : Nat} {f : Addr} {fd : FuncData} {ps : List Str} {sp : Sp} {ds : List Value} {dvs : List V} {E : St → XK} {x : Str} {p pos : Pos} {e : Expr} {es : List Expr} {t : TA}
end
end L2

set_option Elab.async false
set_option linter.all false
set_option maxRecDepth 100000
set_option maxHeartbeats 4000000
/-! enumerate of a tuple from a count on; get of a written dict -/
namespace L2
open PySem PySem.Spec PySem.Calls PyProof.Rows
/-- count and item of the tuple at a, in a new pair each turn -/
def ItC (K : PySem.W.Frag) (a : Addr) (c : Int) : It where
  go i H := ∃ (us : List V) (u : V), SqT K H a us ∧ us[i]? = some u
  yld i H v H' := ∃ p u, v = .ref p ∧ H p = none ∧ H' = upd H p (.tup [.int (c + (i : Nat)), u]) ∧ ∀ us, SqT K H a us → us[i]? = some u
  stop i H := ∃ us : List V, SqT K H a us ∧ us.length = i
def CtSt (a e j : Addr) (c : Int) (i : Nat) (h : Heap) : Prop := (∃ old, IsEnum h e j (c + (i : Int)) old) ∧ h.IsTupleIter j a i ∧ e ≠ j
theorem tupNe {h : Heap} {a j : Addr} {i : Nat} {us : Array Value} (p : h.IsTuple a us) (q : h.IsTupleIter j a i) : a ≠ j := fun z => by
  obtain ⟨o, ho, hc, _⟩ := p
  obtain ⟨o2, ho2, hc2, _⟩ := q
  rw [← z, ho] at ho2
  cases ho2
  rw [hc] at hc2
  injection hc2 with z2
  exact absurd z2 (by decide)
theorem tupNeE {h : Heap} {a e j : Addr} {c : Int} {old : Value} {us : Array Value} (p : h.IsTuple a us) (q : IsEnum h e j c old) : e ≠ a := fun z => by
  obtain ⟨o, ho, hc, _⟩ := p
  have q' : h.get? e = some _ := q
  rw [z, ho] at q'
  cases q'
  injection hc with z2
  exact absurd z2 (by decide)
theorem turn_count {P : Program} {w : World} {K : PySem.W.Frag} {es : List Expr} {n : Nat} {pos : Pos} (a e j : Addr) (c : Int) : Turn P w K (.Tuple es n pos) (ItC K a c) [e, j] e (CtSt a e j c) where
  mem := List.mem_cons_self
  obj := fun i h ⟨⟨old, he⟩, ⟨o, ho, _, hd⟩, _⟩ b hb => by
    have hb : b = e ∨ b = j := by simpa using hb
    rcases hb with rfl | rfl
    · exact ⟨_, he, fun v q => nomatch q⟩
    · exact ⟨o, ho, fun v q => by rw [hd] at q; cases q⟩
  keep := fun i h h' ⟨⟨old, he⟩, hj, ne⟩ k => ⟨⟨old, k e (by simp) _ he⟩, hj.at fun o q => k j (by simp) o q, ne⟩
  item := by
    intro X hP hw hK calm i pins s σ H E I free st go
    subst hP hw hK
    obtain ⟨⟨old, he⟩, hj, ne⟩ := st
    obtain ⟨us, u, hus, hu⟩ := go
    obtain ⟨ws, rv, pt, hz⟩ := I.tuple hus
    have pt' : s.heap.IsTuple a ws.toArray := pt
    obtain ⟨v, hv, ru⟩ := rv.get hu
    have aj := tupNe pt' hj
    have ea := tupNeE pt' he
    have le : e < s.heap.objs.size := Heap.lt_size he
    have lj : j < s.heap.objs.size := by
      obtain ⟨_, q, _⟩ := hj
      exact Heap.lt_size q
    have hi : i < ws.toArray.size := by
      rw [List.size_toArray]
      exact (List.getElem?_eq_some_iff.mp hv).1
    have D := Draws.tuple (prog := X.prog) (w := X.w) (A := X.A.in1) (show X.A.in1.handled = none from I.ok.hd calm) j a aj ws.toArray
    refine wpAny_pyNext_enum_itemC D he ⟨hj, pt'⟩ hi ne (by simpa using ⟨ne, ea⟩) fun x h1 tk hx he1 hj1 hT hsz keep => ?_
    have hxv : x = v := by
      have hx : ws.toArray[i]? = some x := hx
      rw [List.getElem?_toArray, hv] at hx
      exact (Option.some.inj hx).symm
    subst hxv
    refine ⟨_, rfl, wpAny_letOwnedTupleGo_enum (s := { s with heap := h1, toks := tk + 1 }) he1 fun h2 he2 sb => ?_⟩
    have hT2 : h2.get? s.heap.objs.size = some { cls := .type "tuple", data := .seq #[.int (c + (i : Int)) tk, x] } := (sb.2 _ (Nat.ne_of_gt le)).trans hT
    have made : ObjOk X.prog X.w (upd H s.heap.objs.size (.tup [.int (c + (i : Nat)), u])) h2 s.heap.objs.size (.tup [.int (c + (i : Nat)), u]) :=
      ⟨by show 2 ≤ sizeLine; decide, [.int (c + (i : Int)) tk, x], .cons ⟨_, rfl⟩ (.cons ru .nil), ⟨_, hT2, rfl, _, rfl⟩⟩
    have I1 : Inv X pins σ (upd H s.heap.objs.size (.tup [.int (c + (i : Nat)), u])) { s with heap := h2, toks := tk + 1 } :=
      I.turnedNew (ch := [e, j]) (fun b ob hb q => (sb.2 b fun z => hb (by simp [z])).trans (keep b ob (fun z => hb (by simp [z])) (fun z => hb (by simp [z])) q)) free (Nat.le_refl _) made
    refine ⟨.ref s.heap.objs.size, _, I1, rfl, ⟨_, u, rfl, I.hok.fresh (Nat.le_refl _), rfl, fun ys hy => by rw [I.tuple_inj hy hus]; exact hu⟩, ⟨⟨x, ?_⟩, hj1.1.at fun o q => (sb.2 j (Ne.symm ne)).trans q, ne⟩, fun b hb => ?_⟩
    · have e1 : c + ((i + 1 : Nat) : Int) = c + (i : Int) + 1 := by omega
      rw [e1]
      exact he2
    · have lb : b < s.heap.objs.size := by
        have hb : b = e ∨ b = j := by simpa using hb
        rcases hb with q | q <;> rw [q] <;> assumption
      rw [upd_ne (Nat.ne_of_lt lb)]
      exact (free b hb).1
  done := by
    intro X hP hw hK calm i pins s σ H E I free st stop
    subst hP hw hK
    obtain ⟨⟨old, he⟩, hj, ne⟩ := st
    obtain ⟨us, hus, hi⟩ := stop
    obtain ⟨ws, rv, pt, hz⟩ := I.tuple hus
    have pt' : s.heap.IsTuple a ws.toArray := pt
    obtain ⟨f0, f1, f2, f3, f4, f5⟩ := free j (by simp)
    have aj := tupNe pt' hj
    have hi' : i = ws.toArray.size := by
      rw [List.size_toArray, ← rv.length]
      exact hi.symm
    subst hi'
    exact wpAny_pyNext_enum_endD (Draws.tuple (prog := X.prog) (w := X.w) (A := X.A.in1) (show X.A.in1.handled = none from I.ok.hd calm) j a aj ws.toArray) he ⟨hj, pt'⟩ fun h1 kp => ⟨rfl, I.turned (t' := s.toks) (fun b o hb q => kp b o hb q) f0 f1 f3 f4 f5⟩
  self := fun A i s Q E st h => let ⟨⟨_, he⟩, _⟩ := st; wpAny_pyIter_enum he h
def iCnt (K : PySem.W.Frag) (c : Int) (ta : TA) : TI := fun σ H R => ta σ H fun vs H1 => ∃ a, vs = [.ref a] ∧ (∃ us, SqT K H1 a us) ∧ R (ItC K a c) H1
/-- for i, x in enumerate(t, start=c), t a tuple, c written -/
theorem pi_count {X : Cx} {e : Expr} {ta : TA} {c : Int} {p pos tpos : Pos} {es : List Expr} {n : Nat} {kws : List Keyword} (hg : Gl X "enumerate") (hm : X.mg "enumerate" = none) (ha : PA X [e] ta) (hk : PK X kws (tCons (tC (.int c)) tNil)) (hc : -(2 ^ 63) ≤ c ∧ c < 2 ^ 63)
    (he : backTo pos (starEach [e] X.env) = (false, eval e X.env) :: backTo pos (starEach [] X.env) := by rfl) (hp : (backTo pos (starEach [e] X.env)).any (·.1) = false := by rfl)
    (hall : (backToKw pos (keywordEach kws X.env)).all (·.1.isSome) = true := by rfl) (hnone : (backToKw pos (keywordEach kws X.env)).any (·.1.isNone) = false := by rfl) (hks : (backToKw pos (keywordEach kws X.env)).filterMap (·.1) = [Str.ofString "start"] := by rfl) :
    PI X (.Tuple es n tpos) (.Call (.Name "enumerate" p) [e] kws pos) (iCnt X.K c ta) := by
  refine ⟨fun pins s σ H R I h => ?_⟩
  refine wpAny_Call_Name_kw (ld_blt I hg hm boot_enumerate ?_)
  refine Z.callTyS (thn (ha.run pos pins s σ H _ I h) fun us s1 ⟨vs, H1, I1, r1, a, ev, ⟨zs, hz⟩, k⟩ => thn (hk.run pos pins s1 σ H1 (fun vs H2 => vs = [.int c] ∧ H2 = H1) I1 ⟨rfl, rfl⟩) fun ws s2 ⟨zs2, H2, I2, r2, ez, eH⟩ => ?_) he hp hall hnone
  subst ev ez eH
  rw [hks]
  cases r1 with
  | cons ra rr =>
    cases rr
    cases ra
    cases r2 with
    | cons rc rr =>
      cases rr
      obtain ⟨tk, rfl⟩ := rc
      obtain ⟨its, rv, pt, _⟩ := I2.tuple hz
      have pt' : s2.heap.IsTuple a its.toArray := pt
      refine enum_begins_start (begins_tuple a its.toArray) pt' hc.1 hc.2 fun h1 he1 hj hsz kp => wpAny_pyIter_enum he1 ?_
      have I3 : Inv X pins σ H2 { s2 with heap := h1 } := I2.kept (t' := s2.toks) kp
      have e0 : c + ((0 : Nat) : Int) = c := by omega
      refine ⟨s2.heap.objs.size + 1, [s2.heap.objs.size + 1, s2.heap.objs.size], CtSt a (s2.heap.objs.size + 1) s2.heap.objs.size c, _, H2, rfl, I3, turn_count a (s2.heap.objs.size + 1) s2.heap.objs.size c, ⟨⟨.none, by rw [e0]; exact he1⟩, ⟨_, hj, rfl, rfl⟩, Nat.succ_ne_self _⟩, fun b hb => ?_, k⟩
      have le : s2.heap.objs.size ≤ b := by
        have hb : b = s2.heap.objs.size + 1 ∨ b = s2.heap.objs.size := by simpa using hb
        rcases hb with q | q <;> rw [q] <;> first | exact Nat.le_add_right _ _ | exact Nat.le_refl _
      exact I2.fpOk le (I2.hok.fresh le)
theorem walk_count {K : PySem.W.Frag} {a : Addr} {c : Int} {xs : List V} : Walk (ItC K a c) xs.length (fun H => SqT K H a xs) (YPair (fun i => some (.int (c + (i : Nat)))) (fun i => xs[i]?)) := by
  refine ⟨fun i _ hi q => ⟨xs, xs[i], q, by simp [hi]⟩, fun _ q => ⟨xs, q, rfl⟩, fun i H v H' _ q y => ?_⟩
  obtain ⟨p, u, h1, h2, h3, h4⟩ := y
  exact ⟨p, .int (c + (i : Nat)), u, h1, h2, h3, rfl, h4 xs q⟩
theorem s_iCnt {K : PySem.W.Frag} {c : Int} {ta : TA} {σ : St} {H : Hp} {R : It → Hp → Prop} (k : ta σ H fun vs H1 => ∃ a, vs = [.ref a] ∧ (∃ us, SqT K H1 a us) ∧ R (ItC K a c) H1) : iCnt K c ta σ H R := k
/-! get of a written dict -/
/-- a dict that stands in the module, its keys texts -/
def KDic (K : PySem.W.Frag) (w : World) (a : Addr) : Prop := ∃ es n, K.lookup a = some ⟨.type "dict", none, .dict es n, #[]⟩ ∧ PySem.W.KeysLit w.params es.toList ∧ (a == sysModules) = false
def tKGet (K : PySem.W.Frag) (w : World) (td tk : TE) : TE := fun σ H Q => td σ H fun x H1 => ∃ a, x = .ref a ∧ KDic K w a ∧ tk σ H1 fun y H2 => ∃ z, y = .str z ∧ ((∃ v, KDct K w a z v ∧ Q v H2) ∨ (KMiss K w a z ∧ Q .non H2))
theorem pe_kget {X : Cx} {d k : Expr} {td tk : TE} {apos cpos : Pos} (hd : PE X d td) (hk : PE X k tk) (m : M1 X d "get" apos k cpos) : PE X (.Call (.Attribute d "get" apos) [k] [] cpos) (tKGet X.K X.w td tk) := by
  refine ⟨fun pins s σ H Q I h => ?_⟩
  refine wpAny_Call_method m.base m.few m.line PySem.F.plainAttrs_dict PySem.F.slot_dict_get PySem.F.type_dict_get (thn (hd.run pins s σ H _ I h) fun u s1 ⟨x, H1, I1, rx, a, ex, ⟨es, n, hl, hkl, low⟩, q1⟩ => ?_)
  subst ex
  obtain rfl : u = Value.ref a := rx
  have mp := PySem.W.mapOf_K (prog := X.prog) (w := X.w) I1.kIn hl hkl
  refine ⟨mp.typeIs, fun b q => ?_, ?_⟩
  · cases q
    obtain ⟨o, _, _, h1, h2, _⟩ := mp
    exact ⟨o, h1, h2.2.1⟩
  rw [m.trees]
  refine Calls.callWith_builtin rfl (Calls.evalArgs_plain (Calls.spliced_cons (thn (hk.run pins s1 σ H1 _ I1 q1) fun iv s2 ⟨y, H2, I2, ry, z, ey, g⟩ => Calls.spliced_nil ?_)))
  subst ey
  obtain ⟨t, rfl⟩ := (show ∃ t, iv = Value.str z t from ry)
  have mp2 := PySem.W.mapOf_K (prog := X.prog) (w := X.w) I2.kIn hl hkl
  refine call_meetsIn PySem.F.slot_dict_get mp2.typeIs PySem.F.entry_dict_get (PySem.F.args_dict_get_2 _ _) (meets_dict_get (strKind X.prog X.w) a (strKind_is X.prog X.w z t) low) ⟨_, mp2, ?_⟩
  rcases g with ⟨v, ⟨es2, n2, u0, hl2, _, e, ru⟩, q⟩ | ⟨⟨es2, n2, hl2, _, _, e⟩, q⟩
  · rw [PySem.W.find_K hl e]
    exact ⟨v, H2, I2.tok _, ru, q⟩
  · rw [PySem.W.find_K hl e]
    exact ⟨.non, H2, I2.tok _, rfl, q⟩
/-! d.update(e): both tracked, their keys ints and texts -/
def tDUpd (td te : TE) : TE := fun σ H Q => td σ H fun x H1 => ∃ a, x = .ref a ∧ IsD H1 a ∧ te σ H1 fun y H2 => ∃ b kvs more, y = .ref b ∧ a ≠ b ∧ H2 a = some (.dK kvs) ∧ H2 b = some (.dK more) ∧ kvs.length + more.length ≤ 10000 ∧ Q .non (upd H2 a (.dK (mergeK kvs more)))
theorem pe_dupd {X : Cx} {d e : Expr} {td te : TE} {apos cpos : Pos} (hd : PE X d td) (he : PE X e te) (m : M1 X d "update" apos e cpos) : PE X (.Call (.Attribute d "update" apos) [e] [] cpos) (tDUpd td te) := by
  refine ⟨fun pins s σ H Q I h => ?_⟩
  refine wpAny_Call_method m.base m.few m.line PySem.F.plainAttrs_dict PySem.F.slot_dict_update PySem.F.type_dict_update (thn (hd.run pins s σ H _ I h) fun u s1 ⟨x, H1, I1, rx, a, ex, dd, q1⟩ => ?_)
  subst ex
  obtain rfl : u = Value.ref a := rx
  obtain ⟨t1, t2, _⟩ := isD_at I1 dd
  refine ⟨t1, t2, ?_⟩
  rw [m.trees]
  refine Calls.callWith_builtin rfl (Calls.evalArgs_plain (Calls.spliced_cons (thn (he.run pins s1 σ H1 _ I1 q1) fun iv s2 ⟨y, H2, I2, ry, b, kvs, more, ey, ne, ha, hb, hz, q2⟩ => Calls.spliced_nil ?_)))
  subst ey
  obtain rfl : iv = Value.ref b := ry
  obtain ⟨_, lowA, va, ra, da⟩ := dk_of I2.hok ha
  obtain ⟨_, lowB, vb, rb, db⟩ := dk_of I2.hok hb
  have zl : (mergeK kvs more).length ≤ sizeLine := Nat.le_trans (length_mergeK more kvs) (Nat.le_trans hz (by decide))
  refine call_meetsIn PySem.F.slot_dict_update da.typeIs PySem.F.entry_dict_update (PySem.F.args_dict_update_2 _ _) (meets_dict_update (mixKind X.prog X.w) a b ne lowB)
    ⟨va, vb, da, db, by rw [← ra.length, ← rb.length]; exact Nat.le_trans hz (by decide), fun h' da' db' sb => ?_⟩
  have hex : ∃ q, h'.get? a = some q := let ⟨q, _, _, hq, _⟩ := da'; ⟨q, hq⟩
  exact ⟨.non, _, d_write (t' := s2.toks) I2 (by rw [ha]; exact True.intro) sb hex (dk_new zl lowA (rb.merge ra) da'), rfl, q2⟩
theorem s_dupd {td te : TE} {σ : St} {H : Hp} {Q : VK} (k : td σ H fun x H1 => ∃ a, x = .ref a ∧ IsD H1 a ∧ te σ H1 fun y H2 => ∃ b kvs more, y = .ref b ∧ a ≠ b ∧ H2 a = some (.dK kvs) ∧ H2 b = some (.dK more) ∧ kvs.length + more.length ≤ 10000 ∧ Q .non (upd H2 a (.dK (mergeK kvs more)))) : tDUpd td te σ H Q := k
theorem s_kget {K : PySem.W.Frag} {w : World} {td tk : TE} {σ : St} {H : Hp} {Q : VK} (k : td σ H fun x H1 => ∃ a, x = .ref a ∧ KDic K w a ∧ tk σ H1 fun y H2 => ∃ z, y = .str z ∧ ((∃ v, KDct K w a z v ∧ Q v H2) ∨ (KMiss K w a z ∧ Q .non H2))) : tKGet K w td tk σ H Q := k
end L2
namespace Z
open L2 PySem PySem.Spec
section
variable {K : PySem.W.Frag} {nx : L2.St → Hp → Prop} {rt : VK} {ts : TS} {σ : L2.St} {H : Hp} {g : TG} {a : Addr} {c : Int}
theorem l_cnt (xs : List V) (Pv : Nat → L2.St → Hp → Prop) (h0 : Pv 0 σ H) (hG : ∀ i σ H, i ≤ xs.length → Pv i σ H → SqT K H a xs)
    (hs : ∀ (i : Nat) x t σ H H', xs[i]? = some x → Pv i σ H → H t = none → Ex H H' → H' t = some (.tup [.int (c + (i : Nat)), x]) → g (.ref t) σ H' fun σ2 H2 => ts ⟨Pv (i + 1), rt, nx, Pv (i + 1)⟩ σ2 H2) (hd : ∀ σ H, Pv xs.length σ H → nx σ H) :
    ∃ a', [V.ref a] = [.ref a'] ∧ (∃ us, SqT K H a' us) ∧ Loops (ItC K a' c) g ts nx rt σ H :=
  ⟨a, rfl, ⟨xs, hG 0 σ H (Nat.zero_le _) h0⟩, loops_of walk_count Pv h0 hG (fun i x σ H H' hi p y => by
    obtain ⟨t, u, v, rfl, ht, rfl, hx, hy⟩ := y
    cases hx
    exact hs i v t σ H _ hy p ht (Ex.new ht) upd_same) hd⟩
theorem c_cnt {tt : TT} {te : TE} {vs : List Nat} {Q : VK} (xs : List V) (h : SqT K H a xs) (Iv : Addr → Hp → Prop) (R : Addr → Nat → List V → Hp → Prop)
    (h0 : ∀ D H', H D = none → Ex H H' → H' D = some (.lst []) → Iv D H' ∧ R D 0 [] H') (hG : ∀ D H', Iv D H' → SqT K H' a xs)
    (hs : ∀ D (i : Nat) l H1 H2 t x, xs[i]? = some x → Iv D H1 → H1 D = some (.lst l) → l.length ≤ i → R D i l H1 → H1 t = none → Ex H1 H2 → H2 t = some (.tup [.int (c + (i : Nat)), x]) → g (.ref t) (wipe σ vs) H2 fun σ2 H2 => wipe σ2 vs = wipe σ vs ∧ tt σ2 H2 fun b H3 =>
      if b = true then te σ2 H3 fun y H4 => ∃ acc, H4 D = some (.lst acc) ∧ acc.length < sizeLine ∧ Cv Iv R D (i + 1) (upd H4 D (.lst (acc ++ [y]))) else Cv Iv R D (i + 1) H3)
    (hd : ∀ D l H', Iv D H' → H' D = some (.lst l) → l.length ≤ xs.length → R D xs.length l H' → Q (.ref D) H') :
    ∃ a', [V.ref a] = [.ref a'] ∧ (∃ us, SqT K H a' us) ∧ LcW (ItC K a' c) g tt te vs σ H Q :=
  ⟨a, rfl, ⟨xs, h⟩, c_it walk_count Iv R h0 hG (fun D i l H1 x H1' hi a hl hz r y => by
    obtain ⟨t, u, v, rfl, ht, rfl, hx, hy⟩ := y
    cases hx
    exact hs D i l H1 _ t v hy a hl hz r ht (Ex.new ht) upd_same) hd⟩
end
end Z

set_option Elab.async false
set_option linter.all false
set_option maxRecDepth 100000
set_option maxHeartbeats 4000000
/-! a call of what a list of defs holds -/
namespace L2
open PySem PySem.Spec PySem.Calls PyProof.Rows
end L2

set_option Elab.async false
set_option linter.all false
set_option maxRecDepth 100000
set_option maxHeartbeats 2000000
namespace Z
open PySem PySem.Spec PyProof.Rows L2
/-! sorted of a dict whose keys are ints, any number of them -/
end Z

set_option Elab.async false
set_option linter.all false
set_option maxRecDepth 100000
set_option maxHeartbeats 2000000
namespace Z
open PySem L2
/-! len(o) by the own __len__ -/
section
open PySem.W PyProof.Rows
variable {P : Program} {w : World} {A : Around} {E : Value → Shared → Prop} {s : Shared} {K : Frag} {x C f : Addr} {ox : Obj} {od : Option Obj}
end
section
variable {X : Cx} {n : Nat} {CX : CXT} {f : Addr} {fd : FuncData} {ps : List Str} {sp : Sp} {E : XK} {C : Addr}
end
end Z
namespace L2
open PySem PySem.Spec PyProof.Rows
section
variable {X : Cx} {CX : CXT} {k : Nat} {C f : Addr} {m : Str} {fd : FuncData} {ps : List Str} {sp : Sp} {ds : List Value} {dvs : List V} {E : St → XK} {apos pos : Pos} {o e : Expr} {es : List Expr} {ta : TE} {t : TA}
/-- o.m(e, ..) in a try -/
def tMethT (C : Addr) (m : Str) (sp : Sp) (dvs : List V) (E : St → XK) (ta : TE) (t : TA) : TE := fun σ H Q => ta σ H fun x H1 => ∃ a dx fs, x = .ref a ∧ H1 a = some (.ins C dx fs) ∧ fs.lookup m = none ∧ t σ H1 fun vs H2 => sp (x :: (vs ++ dvs)) H2 Q (E σ)
theorem run_fnT {pins : List (Addr × Obj)} {σ : St} {H : Hp} {s : Shared} {us : List Value} {vs : List V} {Q : VK} (F : FnOk X.prog X.w X.K X.mg X.base CX k f fd ps sp) (hr : Room k X.A) (hb : Binds X.K fd ps ds) (hd : Vals dvs ds) (hx : ∀ σ, PassesAt CX X σ (E σ)) (I : Inv X pins σ H s) (r : Vals vs us) (q : sp (vs ++ dvs) H Q (E σ)) :
    wpAny (model X.prog X.w) X.A (call (.ref f) us) (EP X pins σ Q) X.xe s := by
  have r2 : Vals (vs ++ dvs) (us ++ ds) := r.append hd
  have hl : (us ++ ds).length = ps.length := by rw [← r2.length]; exact F.len _ _ _ _ q
  refine wpAny_call (codeAny_mono (F.run X.A X.stack s H ⟨us, []⟩ (us ++ ds) (vs ++ dvs) Q (E σ) hr I.env0 (hb s us I.kIn hl) r2 q) fun r s' hq => ?_)
  cases r with
  | error e => exact hx σ pins H s e s' I hq
  | ok fl =>
    cases fl with
    | ret u => exact I.after hq
    | next => exact False.elim hq
    | brk => exact False.elim hq
    | cont => exact False.elim hq
theorem pe_methT {pl : Sem Bool} (he : PE X o ta) (c : Cls X.K C) (hm : Meth X.K C m f) (F : FnOk X.prog X.w X.K X.mg X.base CX k f fd ps sp) (hr : Room k X.A) (hb : Binds X.K fd ps ds) (hd : Vals dvs ds) (hx : ∀ σ, PassesAt CX X σ (E σ)) (ha : PA X (e :: es) t)
    (hst : starEach (e :: es) X.env = (false, eval e X.env) :: starEach es X.env := by rfl) (hpl : (backTo pos (starEach es X.env)).any (·.1) = false := by rfl)
    (ht : eval (.Call (.Attribute o m apos) (e :: es) [] pos) X.env = (do
      let ov ← eval o X.env
      standAt apos.atName
      let (g, first) ← holding [ov] (getMethod ov m pl)
      callWith pos g first (backTo pos (starEach (e :: es) X.env)) (backToKw pos (keywordEach [] X.env))) := by rfl) :
    PE X (.Call (.Attribute o m apos) (e :: es) [] pos) (tMethT C m sp dvs E ta t) := by
  refine ⟨fun pins s σ H Q I h => ?_⟩
  refine PySem.W.methodCall_KW (pl := pl) (thn (he.run pins s σ H _ I h) fun u s1 ⟨x, H1, I1, rx, a, dx, fs, ex, ea, l, q⟩ => ?_) ht
  subst ex
  obtain rfl : u = Value.ref a := rx
  refine getmeth_ok I1 ea c hm l ?_
  refine PySem.W.callWith_K (first := [.ref a]) (h₀ := X.base) I.ok.mod.kin hm.kp (thn (ha.run pos pins s1 σ H1 _ I1 q) fun us s2 ⟨vs, H2, I2, r, q2⟩ => ⟨I2.kIn, ?_⟩) hst hpl
  exact run_fnT (us := .ref a :: us) (vs := .ref a :: vs) F hr hb hd hx I2 (.cons rfl r) q2
end
end L2

set_option Elab.async false
set_option linter.all false
set_option maxRecDepth 100000
set_option maxHeartbeats 2000000
namespace L2
open PySem PySem.Spec PyProof.Rows
section
variable {X : Cx} {CX : CXT} {k : Nat} {C f : Addr} {m : Str} {fd : FuncData} {ps : List Str} {sp : Sp} {ds : List Value} {dvs : List V} {E : St → XK} {apos pos : Pos} {o : Expr} {ta : TE}
end
end L2
namespace Z
open PySem PySem.Spec PyProof.Rows L2
end Z

set_option Elab.async false
set_option linter.all false
set_option maxRecDepth 100000
set_option maxHeartbeats 2000000
namespace Z
open PySem PySem.Spec PyProof.Rows L2
/-- str(x) of a text or a whole number -/
def rStrB : List V → Hp → VK → Prop := fun vs H Q => (∃ a : Str, vs = [.str a] ∧ Q (.str a) H) ∨ ∃ i : Int, vs = [.int i] ∧ i.natAbs.log2 < 1920 ∧ Q (.str (toString i)) H
theorem cr_strB {X : Cx} : CallR X (.type "str") rStrB := by
  intro pins s σ H vs us Q I r h
  rcases h with ⟨a, rfl, q⟩ | ⟨i, rfl, hz, q⟩
  · exact SkE.call_str_str pins s σ H _ us Q I r ⟨a, rfl, q⟩
  · exact cz_strInt pins s σ H _ us Q I r ⟨i, rfl, hz, q⟩
theorem s_strBS {a : Str} {H : Hp} {Q : VK} (k : Q (.str a) H) : rStrB [.str a] H Q := .inl ⟨a, rfl, k⟩
theorem s_strBI {i : Int} {H : Hp} {Q : VK} (h : i.natAbs.log2 < 1920) (k : Q (.str (toString i)) H) : rStrB [.int i] H Q := .inr ⟨i, rfl, h, k⟩
theorem s_extend {l b : Addr} {xs zs : List V} {H : Hp} {Q : VK} (h1 : H l = some (.lst xs)) (h2 : H b = some (.lst zs)) (hz : xs.length + zs.length ≤ sizeLine) (k : ∀ H', Fr l H H' → H' l = some (.lst (xs ++ zs)) → Q .non H') : rExtend (.ref l) [.ref b] H Q :=
  ⟨l, b, xs, zs, rfl, rfl, h1, h2, hz, k _ Fr.upd upd_same⟩
theorem joinT_len (y : Str) (ys : List Str) : (Txt.join y ys).length ≤ (ys.map (·.length)).sum + ys.length * y.length := by
  rw [TL.join_eq]
  exact StrLaws.join_length_le y ys
theorem Str_empty_app (a : Str) : Str.empty ++ a = a := by
  show (⟨#[] ++ a.cps⟩ : Str) = a
  rw [Array.empty_append]
end Z

set_option Elab.async false
set_option linter.all false
set_option maxRecDepth 100000
set_option maxHeartbeats 2000000
namespace L2
open PySem PySem.Spec PyProof.Rows
/-- a list taken apart by a target with one star: i names ahead of it, m behind -/
def gStar (K : PySem.W.Frag) (i m : Nat) (t : TGs) : TG := fun v σ H Q => ∃ a xs, v = .ref a ∧ SqL K H a xs ∧ i + m ≤ xs.length ∧ xs.length ≤ 16384 ∧ ∀ p, H p = none → t (xs.take i ++ [.ref p] ++ (xs.drop i).drop (xs.length - m - i)) σ (upd H p (.lst ((xs.drop i).take (xs.length - m - i)))) Q
section
variable {X : Cx} {pos : Pos}
theorem pgs_star {e : Expr} {q : Pos} {es : List Expr} {t : TG} {u : TGs} (h1 : PG X e t) (h2 : PGs X es u)
    (hs : (assignEach (.Starred e q :: es) X.env).map (·.2) = assign e X.env :: (assignEach es X.env).map (·.2) := by rfl) : PGs X (.Starred e q :: es) (gCons t u) := by
  refine ⟨fun pins s σ H vs us Q I r h => ?_⟩
  obtain ⟨v, vr, e1, h⟩ := h
  subst e1
  cases r with
  | cons r rr =>
    rw [hs]
    refine assignInOrder_cons (thn (h1.run pins s σ H _ _ _ I r h) fun _ s1 ⟨σ1, H1, I1, q1⟩ => ?_)
    exact h2.run pins s1 σ1 H1 _ _ Q I1 rr q1
theorem pg_star {es : List Expr} {k i m : Nat} {t : TGs} (hc : X.calm = true) (h : PGs X es t)
    (hn : (assignEach es X.env).length = i + 1 + m := by rfl) (hst : (assignEach es X.env).findIdx? (·.1) = some i := by rfl) : PG X (.Tuple es k pos) (gStar X.K i m t) := by
  refine ⟨fun pins s σ H v u Q I r hw => ?_⟩
  obtain ⟨a, xs, e1, hq, hl, hz, hw⟩ := hw
  subst e1
  cases r
  obtain ⟨its, rv, ht, hzz⟩ := I.list hq
  have hlist := ht.isList
  have hlen := rv.length
  have hh := I.ok.hd hc
  have hlt : a ≠ s.heap.objs.size := by
    obtain ⟨o, ho, _⟩ := hlist
    exact Nat.ne_of_lt (Heap.lt_size ho)
  rw [assign_Tuple]
  refine wpAny_bind (wpAny_standAt ?_)
  unfold unpack
  rw [hn, hst]
  refine wpAny_bind (wpAny_holding ?_)
  unfold unpackItems
  refine wpAny_bind ?_
  unfold notIterableAtAll
  refine wpAny_bind (wpAny_specialOf hlist.typeIs slot_list_iter.lookup ?_)
  refine wpAny_pure ?_
  simp only [Bool.false_eq_true, if_false]
  refine wpAny_bind (wpAny_holding (wpAny_pyIter_list hlist ?_))
  refine wpAny_bind (wpAny_holding (PySem.W.kun_draw hlt i 0 _ _ ⟨_, Heap.get?_push_size _ rfl, rfl, rfl⟩ (hlist.push _) (by simp; omega) fun h₁ hit₁ hs₁ => ?_))
  have hl₁ : h₁.IsList a its.toArray := (hlist.push _).extBut hs₁.extBut hlt
  rw [Nat.zero_add] at hit₁
  obtain ⟨oi, hoi, _⟩ := id hit₁
  obtain ⟨ol, hol, _⟩ := id hl₁
  rw [List.drop_zero]
  have hfl : (its.toArray.toList.take i).length = i := by rw [List.length_take]; simp; omega
  rw [if_neg (show ¬ ((its.toArray.toList.take i).length < i) by rw [hfl]; omega)]
  refine wpAny_bind (wpAny_holding (PySem.W.kun_collect (s := { s with heap := h₁ }) (T := "list_iterator") (.inr (.inr (.inl rfl))) (Walks.list (A := X.A.in1) hh s.heap.objs.size a hlt its.toArray) (fun j u st => st.1.typeIs) (k := i) (by simp; omega) ⟨hit₁, hl₁⟩ (Heap.lt_size hoi) (Heap.lt_size hol) (fun h₂ tk hk => ?_) (by rw [sizeLine_eq]; simp; omega)))
  have hrl : (its.toArray.toList.drop i).length = its.length - i := by rw [List.length_drop]
  have hmid : (its.toArray.toList.drop i).length - (i + 1 + m - 1 - i) = xs.length - m - i := by rw [hrl]; omega
  show wpAny _ _ (if (its.toArray.toList.drop i).length < i + 1 + m - 1 - i then _ else _) _ _ _
  rw [if_neg (by rw [hrl]; omega)]
  show wpAny _ _ (newList ((its.toArray.toList.drop i).take ((its.toArray.toList.drop i).length - (i + 1 + m - 1 - i))) >>= fun d => pure (its.toArray.toList.take i ++ [d] ++ (its.toArray.toList.drop i).drop ((its.toArray.toList.drop i).length - (i + 1 + m - 1 - i)))) _ _ _
  rw [hmid]
  have hk2 : ∀ b o, s.heap.get? b = some o → h₂.get? b = some o := fun b o e => hk b o (Nat.ne_of_lt (Heap.lt_size e)) (hs₁.extBut b o (Nat.ne_of_lt (Heap.lt_size e)) (Heap.get?_push_of_some _ e))
  refine wpAny_bind (wpAny_newList (wpAny_pure ?_) (by rw [List.length_take, hrl, sizeLine_eq]; omega))
  have hf : H h₂.objs.size = none := (I.hok.kept hk2).fresh (Nat.le_refl _)
  have hp : s.heap.get? h₂.objs.size = none := by
    cases q : s.heap.get? h₂.objs.size with
    | none => rfl
    | some o => exact absurd (Heap.lt_size (hk2 _ _ q)) (Nat.lt_irrefl _)
  have vt : Vals ((xs.drop i).take (xs.length - m - i)) ((its.drop i).take (xs.length - m - i)) := (rv.drop i).take _
  have I1 : Inv X pins σ (upd H h₂.objs.size (.lst ((xs.drop i).take (xs.length - m - i)))) { s with heap := h₂.push { cls := .type "list", data := .seq ((its.drop i).take (xs.length - m - i)).toArray }, toks := tk } :=
    I.laidN (fun b u e => Heap.get?_push_of_some _ (hk2 b u e)) hp hf ⟨by rw [List.length_take, List.length_drop, sizeLine_eq]; omega, _, 0, vt, Heap.get?_push_size _ rfl⟩
  exact h.run pins _ σ _ (xs.take i ++ [.ref h₂.objs.size] ++ (xs.drop i).drop (xs.length - m - i)) _ Q I1 (((rv.take i).append (show Vals [V.ref h₂.objs.size] [Value.ref h₂.objs.size] from .cons (show RelV (.ref _) (Value.ref _) from rfl) .nil)).append ((rv.drop i).drop _)) (hw _ hf)
end
end L2

set_option Elab.async false
set_option linter.all false
set_option maxRecDepth 100000
set_option maxHeartbeats 2000000
namespace L2
open PySem PySem.Spec PySem.Calls PyProof.Rows
/-! k in a dict of the module -/
def rInK (K : PySem.W.Frag) (w : World) (ni : Bool) : R2 := fun x y H Q => ∃ z p, x = .str z ∧ y = .ref p ∧ ((∃ v, KDct K w p z v ∧ (p == sysModules) = false ∧ Q (.bl (!ni)) H) ∨ (KMiss K w p z ∧ Q (.bl ni) H))
section
variable {X : Cx}
theorem op_notInK : OpR X (compareOp .NotIn) (rInK X.K X.w true) := by
  intro pins s σ H x y v u Q I rx ry h
  obtain ⟨z, p, rfl, rfl, h⟩ := h
  obtain ⟨t, rfl⟩ := rx
  obtain rfl : u = Value.ref p := ry
  rcases h with ⟨r, ⟨es, n, u0, hl, hk, e, ru⟩, low, q⟩ | ⟨⟨es, n, hl, hk, low, hm⟩, q⟩
  · refine wpAny_notIn_of (strKind_is X.prog X.w z t) low (PySem.W.mapOf_K I.kIn hl hk) ?_
    rw [PySem.W.find_K hl e]
    exact ⟨.bl false, H, I.tok _, rfl, q⟩
  · refine wpAny_notIn_of (strKind_is X.prog X.w z t) low (PySem.W.mapOf_K I.kIn hl hk) ?_
    rw [PySem.W.find_K hl hm]
    exact ⟨.bl true, H, I.tok _, rfl, q⟩
end
end L2
namespace Z
open PySem PySem.Spec PyProof.Rows L2 TL
def rIntS : List V → Hp → VK → Prop := fun xs H Q => ∃ a n, xs = [.str a] ∧ PySem.intText? a = some n ∧ a.length ≤ 640 ∧ Q (.int n) H
theorem cz_intS {X : Cx} : CallR X (.type "int") rIntS := call_int_str
def rBoolS (g : Str → Bool) : V → List V → Hp → VK → Prop := fun x xs H Q => ∃ a, x = .str a ∧ xs = [] ∧ True ∧ Q (.bl (g a)) H
theorem mz_isascii {X : Cx} : MtR X "str.isascii" (rBoolS Txt.isascii) := mt_isascii
theorem mz_isdigit {X : Cx} : MtR X "str.isdigit" (rBoolS Txt.isdigit) := mt_isdigit
theorem s_boolS {g : Str → Bool} {a : Str} {H : Hp} {Q : VK} (k : Q (.bl (g a)) H) : rBoolS g (.str a) [] H Q := ⟨a, rfl, rfl, trivial, k⟩
def rStartsS : V → List V → Hp → VK → Prop := fun x xs H Q => ∃ a b, x = .str a ∧ xs = [.str b] ∧ Q (.bl (Txt.startswith a b)) H
theorem mz_startswith {X : Cx} : MtR X "str.startswith" rStartsS := mt_startswith
theorem s_startsS {a b : Str} {H : Hp} {Q : VK} (k : Q (.bl (Txt.startswith a b)) H) : rStartsS (.str a) [.str b] H Q := ⟨a, b, rfl, rfl, k⟩
def rSplitS : V → List V → Hp → VK → Prop := fun x xs H Q => ∃ a b, x = .str a ∧ xs = [.str b] ∧ (b.length == 0) = false ∧ a.length + 2 ≤ sizeLine ∧ rNewStrs (Txt.split a b) H Q
theorem mz_split {X : Cx} : MtR X "str.split" rSplitS := mt_split
theorem s_splitS {a b : Str} {ys : List Str} {H : Hp} {Q : VK} (h1 : (b.length == 0) = false) (h2 : a.length + 2 ≤ sizeLine) (e : Txt.split a b = ys) (k : NewO (.lst (ys.map V.str)) H Q) : rSplitS (.str a) [.str b] H Q := ⟨a, b, rfl, rfl, h1, h2, by rw [e]; exact k⟩
theorem s_intS {a : Str} {n : Int} {H : Hp} {Q : VK} (h1 : PySem.intText? a = some n) (h2 : a.length ≤ 640) (k : Q (.int n) H) : rIntS [.str a] H Q := ⟨a, n, rfl, h1, h2, k⟩
/-! the text of a number -/
theorem numL_head (n : Nat) : (numL n).head? = some 48 → n = 0 := by
  induction n using Nat.strongRecOn with
  | _ n ih =>
    by_cases h : n < 10
    · rw [numL_lt h]
      intro e
      simp at e
      exact e
    · rw [numL_step (by omega)]
      intro e
      have hne := numL_ne (n / 10)
      cases hc : numL (n / 10) with
      | nil => exact absurd hc hne
      | cons c r =>
        rw [hc] at e
        have := ih (n / 10) (by omega) (by rw [hc]; simpa using e)
        omega
theorem digit_u : ∀ c : Nat, c < 58 → 48 ≤ c → Unicode.isDigit c = true := by decide +kernel
theorem num_digit (n : Nat) : Txt.isdigit (Str.ofString (toString ((n : Nat) : Int))) = true := by
  have h1 := tl_num n
  unfold Txt.isdigit
  rw [Bool.and_eq_true]
  constructor
  · have h2 := numL_ne n
    rw [← h1] at h2
    have : (tl (Str.ofString (toString ((n : Nat) : Int)))).length ≠ 0 := fun e => h2 (List.length_eq_zero_iff.mp e)
    rw [← len_tl] at this
    exact decide_eq_true (by omega)
  · rw [Array.all_eq_true_iff_forall_mem]
    intro c hc
    have hm : c ∈ numL n := by
      rw [← h1]
      exact Array.mem_toList_iff.mpr hc
    have := numL_digits n c hm
    exact digit_u c (by omega) (by omega)
theorem num_ascii (n : Nat) : Txt.isascii (Str.ofString (toString ((n : Nat) : Int))) = true := by
  have h1 := tl_num n
  unfold Txt.isascii
  rw [Array.all_eq_true_iff_forall_mem]
  intro c hc
  have hm : c ∈ numL n := by
    rw [← h1]
    exact Array.mem_toList_iff.mpr hc
  have := numL_digits n c hm
  exact decide_eq_true (by omega)
theorem num_starts {n : Nat} (hn : n ≠ 0) : Txt.startswith (Str.ofString (toString ((n : Nat) : Int))) "0" = false := by
  have h1 := tl_num n
  cases e : Txt.startswith (Str.ofString (toString ((n : Nat) : Int))) "0" with
  | false => rfl
  | true =>
    exfalso
    unfold Txt.startswith Builtin.Str.subAt at e
    rw [Bool.and_eq_true] at e
    have e2 := beq_iff_eq.mp e.2
    refine hn (numL_head n ?_)
    have e3 := congrArg Array.toList e2
    rw [Array.toList_extract, List.extract_eq_take_drop, List.drop_zero] at e3
    rw [← h1]
    show (Str.ofString (toString ((n : Nat) : Int))).cps.toList.head? = some 48
    cases hc : (Str.ofString (toString ((n : Nat) : Int))).cps.toList with
    | nil =>
      rw [hc] at e3
      exact absurd e3 (by decide +kernel)
    | cons c r =>
      rw [hc] at e3
      rw [show (0 + (Str.ofString "0").length - 0) = 1 from by decide +kernel, show (Str.ofString "0").cps.toList = [48] from by decide +kernel] at e3
      simpa using e3
end Z

set_option Elab.async false
set_option linter.all false
set_option maxRecDepth 100000
set_option maxHeartbeats 2000000
namespace Z
open PySem PySem.Spec PyProof.Rows L2
section
open PySem.SeqAt PySem.SeqRoads2 PySem.MeetsSeq AutoSeq1 PyProof.Rows
variable {P : Program} {w : World} {A : Around}
end
section
variable {X : Cx} {n : Nat} {CX : CXT} {f C : Addr} {fd : FuncData} {ps : List Str} {sp : Sp} {E : XK} {Rl : Addr → Addr → Hp → Bool → Prop}
end
end Z

set_option Elab.async false
set_option linter.all false
set_option maxRecDepth 100000
set_option maxHeartbeats 4000000
/-! except (A, B) as e; a call of what a local name holds, with *args -/
namespace L2
open PySem PySem.Spec PySem.Calls PyProof.Rows
section
variable {X : Cx} {pins : List (Addr × Obj)} {σ : St} {H : Hp} {sI s : Shared} {B : Heap} {a : Addr} {cls : Value} {d : Option Addr} {D : Ends} {Wout : WX}
theorem Air.keeps (C : Air X pins σ H sI B a cls d s) {h' : Heap} (k : ∀ b o, s.heap.get? b = some o → h'.get? b = some o) : Air X pins σ H sI B a cls d { s with heap := h' } := by
  obtain ⟨f1, f2, f3, oe, vs, T, oT, ts, g1, g2, g3, g4, g5, g6, g7, g8, g9⟩ := C.fl
  exact ⟨C.inv, C.nb, C.up.trans (.of_keeps k), ⟨fun b o e => k _ _ (f1 b o e), f2, f3.of_keeps (fun b o e _ => ⟨o, k _ _ e, rfl⟩), oe, vs, T, oT, ts, k _ _ g1, g2, g3, g4, g5, g6, k _ _ g7, g8, g9⟩, C.na, C.os, C.ag⟩
theorem name_at (C : Air X pins σ H sI B a cls d s) (hf : X.env.frame = some X.env.locals) {x : Str} {c : Value} {np : Pos} {R : Value → Shared → Prop} {E : Value → Shared → Prop} (hc : Names X x c) (k : R c s) :
    wpAny (model X.prog X.w) (X.A.mark (some (.ref a))) (eval (.Name x np) X.env) R E s := by
  obtain ⟨oe, hz, _, he, S⟩ := C.in_ hf
  obtain ⟨hg, hdb, hm | ⟨hm, hv, hn⟩⟩ := hc
  · exact ld_glob (X := X.suite a ((a, oe) :: (X.pn ++ pins))) S hg hm k hdb
  · exact ld_blt (X := X.suite a ((a, oe) :: (X.pn ++ pins))) S hg hm hv k hn hdb
theorem Air.asks2 (C : Air X pins σ H sI B a cls d s) (hf : X.env.frame = some X.env.locals) {x1 x2 : Str} {c1 c2 : Value} {p1 p2 tpos : Pos} {kk : Nat} {b : Bool} {R : Bool → Shared → Prop} {E : Value → Shared → Prop} (hc1 : Names X x1 c1) (hc2 : Names X x2 c2) (hb : PySem.W.exmAny X.K cls [c1, c2] = some b)
    (k : ∀ h', (∀ b o, s.heap.get? b = some o → h'.get? b = some o) → R b { s with heap := h' }) :
    wpAny (model X.prog X.w) (X.A.mark (some (.ref a))) (eval (.Tuple [.Name x1 p1, .Name x2 p2] kk tpos) X.env) (fun t s1 => wpAny (model X.prog X.w) (X.A.mark (some (.ref a))) (excMatches (.ref a) t) R E s1) E s := by
  obtain ⟨oe, hz, _, he, S⟩ := C.in_ hf
  have LT : PySem.W.Looks (model X.prog X.w) s.heap (typeOf (.ref a)) cls := fun A Q E s k q => wpAny_typeOf_ref (k _ _ he) (by rw [hz.1]; exact q)
  refine wpAny_Tuple ?_
  refine wpAny_items_cons (name_at C hf hc1 ?_)
  refine wpAny_items_cons (name_at C hf hc2 ?_)
  refine wpAny_items_nil ⟨by size_fits, ?_⟩
  have kp : ∀ q o, s.heap.get? q = some o → (s.heap.push { cls := .type "tuple", data := .seq [c1, c2].toArray }).get? q = some o := fun _ _ z => Heap.get?_push_of_some _ z
  exact (PySem.W.exm_tup2 (C.land.kIn.keeps kp) (LT.keeps kp) (Heap.get?_push_size s.heap rfl) hb).here (k _ kp)
end
section
variable {X : Cx} {body suite : List Stmt} {b₀ : Stmt} {x1 x2 n : Str} {c1 c2 : Value} {p1 p2 tpos p' pos : Pos} {kk i : Nat} {tb : WX → TS} {ts : TsX} {Wout : WX}
end
/-! x(e, *y), x a local name that holds one of several defs -/
end L2
namespace L2
open PySem PySem.Spec PySem.Calls PyProof.Rows
end L2
namespace L2
open PySem PySem.Spec PySem.Calls PyProof.Rows
end L2
namespace L2
open PySem PySem.Spec PySem.Calls PyProof.Rows
end L2

set_option Elab.async false
set_option linter.all false
set_option maxRecDepth 100000
set_option maxHeartbeats 4000000
/-! raise X(..) from None in an except suite, X a class of own with super().__init__; except (A, B) with a suite that raises -/
namespace L2H
open PySem PySem.Spec PySem.Calls PyProof.Rows L2 HotX NdefX ClX
section
variable {CX : CXT} {P : Program} {w : World} {K : PySem.W.Frag} {mg : Str → Option Value} {base : Heap} {N ps : List Str} {x qual : Str} {st : Stmt} {f cda cc Dc : Addr} {fd : FuncData} {A : Around} {outer : List Env} {s : Shared} {H : Hp} {E : XK} {k : Nat} {sp : Sp} {p : Addr × Obj}
theorem supH (FS : FunS P K mg x qual st f fd cda cc Dc) {sf : Str} {i j : Nat} (h1 : (defScope st).names.lookup ("super" : Str) = some .globalImplicit) (h2 : (defScope st).names.lookup ("__class__" : Str) = some .free) (h3 : (defScope st).names.lookup sf = some .local)
    (hp : (((defArgs st).posonlyargs ++ (defArgs st).args).head?).map (·.arg) = some sf) (ni : N[i]? = some sf) (nj : N[j]? = some "__class__") : SupF (ncxH CX P w K mg base N (nfS st x qual cc cda) f A outer s H E p) sf i j := by
  have q : SupF (ncx CX P w K mg base N (nfS st x qual cc cda) f A outer s H E) sf i j := FS.sup h1 h2 h3 hp ni nj
  exact ⟨q.ks, q.kc, q.kv, q.ni, q.nj, q.mg, q.fn, q.cd, q.top⟩
/-- a method that says super(), called while p's exception is handled -/
theorem okH (FS : FunS P K mg x qual st f fd cda cc Dc) {st0 : Stmt} {rest : List Stmt} (hst : defBody st = st0 :: rest) (S : NScope N ps ["__class__"] (defScope st)) (len : ∀ vs H Q E, sp vs H Q E → vs.length = ps.length)
    (hbody : ∀ (A : Around) (outer : List Env) (s : Shared) (H : Hp) (vs : List V) (Q : VK) (E : XK) (p : Addr × Obj), Hot1 A p → RoomH k (A.deeper (envF (nfS st x qual cc cda) f s.heap.objs.size)) → sp vs H Q E →
      ∃ t0 t1, PAt (ncxH CX P w K mg base N (nfS st x qual cc cda) f A outer s H E p) (st0 :: rest) st0 t0 ∧ PSs (ncxH CX P w K mg base N (nfS st x qual cc cda) f A outer s H E p) rest t1 ∧
        t0 { nx := fun σ H' => t1 { nx := fun _ H' => Q .non H', rt := Q } σ H', rt := Q } (startF N vs [some (.ref Dc)]) H) : FnH P w K mg base CX (k + 1) f fd ps sp := by
  obtain ⟨oc, od, kV, doc, pm, an, ct, osl, rfl, lk, hcd⟩ := FS.ex
  obtain ⟨occ, odc, oslc, lc⟩ := FS.cell
  refine ⟨len, fun A outer s H args us vs Q E p hr hot hpin e0 hb r hsp => ?_⟩
  have hl := len _ _ _ _ hsp
  have KX : K.In s.heap := e0.mod.kin.keeps fun b o e => (e0.bs b o e).1
  have lim : s.heap.NoLimit := e0.mod.nolimit.keeps fun b o e => (e0.bs b o e).1
  have hcc : H cc = none := (e0.bs cc _ (e0.mod.kin _ _ lc)).2
  have C : CellsAt [(("__class__" : Str), cc)] ["__class__"] [some (.ref Dc)] s.heap H := by
    refine ⟨rfl, fun y c e => ?_, fun y z c e1 e2 => ?_, fun i y e => ?_⟩
    · have e' : ([(("__class__" : Str), cc)] : List (Str × Addr)).lookup y = some c := e
      rw [List.lookup_cons] at e'
      split at e'
      · cases e'
        exact ⟨hcc, some (.ref Dc), _, KX _ _ lc, rfl⟩
      · cases e'
    · have f1 := PySem.mem_of_lookup e1
      have f2 := PySem.mem_of_lookup e2
      rw [List.mem_singleton] at f1 f2
      cases f1
      cases f2
      rfl
    · have hi : i = 0 ∧ y = "__class__" := by
        cases i with
        | zero =>
          cases e
          exact ⟨rfl, rfl⟩
        | succ i => simp at e
      obtain ⟨rfl, rfl⟩ := hi
      refine ⟨cc, by simp [List.lookup], fun v ev => ?_⟩
      cases ev
      exact ⟨.ref Dc, rfl, _, KX _ _ lc, rfl⟩
  refine ks_codeAny_call_defAt (fd := PySem.W.ksFn x qual (defArgs st) (defBody st) (defScope st) .none kV doc pm an (.ref cda) ct cc) (body := defBody st) (binds := ps.zip us) hr.depth (KX _ _ lk) rfl lim (PySem.W.codeRec_of KX hcd) rfl hb S.nocell
    (fun y hy => S.par y.1 (List.of_mem_zip (show (y.1, y.2) ∈ ps.zip us from hy)).1) (fun h₁ hns kp => ?_) S.co S.gen S.kind
  show PySem.wpAt _ (A.deeper (envF (nfS st x qual cc cda) f s.heap.objs.size)) (.func (defBody st) (envF (nfS st x qual cc cda) f s.heap.objs.size)) (execs (defBody st) (envF (nfS st x qual cc cda) f s.heap.objs.size)) _ _ _
  obtain ⟨t0, t1, h0, h1, hq⟩ := hbody A outer s H vs Q E p hot (hr.deeper _) hsp
  have I : Inv (ncxH CX P w K mg base N (nfS st x qual cc cda) f A outer s H E p) [] (startF N vs [some (.ref Dc)]) H { s with heap := h₁, toks := s.toks + (ps.zip us).length } := inv_startNH (F := nfS st x qual cc cda) S hpin e0 hl r C hns kp
  have fin : ∀ {s' : Shared} {σ' : L2.St} {H' : Hp} {v : V} {u : Value}, Inv (ncxH CX P w K mg base N (nfS st x qual cc cda) f A outer s H E p) [] σ' H' s' → L2.RelV v u → Q v H' → CE outer P w H s Q u s' :=
    fun {s' σ' H' v u} J rv q => ⟨v, H', J.os, J.bare, J.base, J.hok, rv, q⟩
  have key : ∀ (fl : Flow) (s' : Shared), SP (ncxH CX P w K mg base N (nfS st x qual cc cda) f A outer s H E p) [] { nx := fun _ H' => Q .non H', rt := Q } fl s' → CR CX outer P w H s Q E (.ok (.ret (match fl with | .ret v => v | _ => .none))) s' := fun fl s' hs => by
    cases fl with
    | ret u =>
      obtain ⟨v, σ', H', J, rv, q⟩ := hs
      exact fin J rv q
    | next =>
      obtain ⟨σ', H', J, q⟩ := hs
      exact fin (v := V.non) (u := Value.none) J rfl q
    | brk =>
      obtain ⟨_, _, _, q⟩ := hs
      exact False.elim q
    | cont =>
      obtain ⟨_, _, _, q⟩ := hs
      exact False.elim q
  rw [hst]
  refine ks_wpAt_execs_cons (ks_wpAt_mono (h0 [] _ _ H _ I hq) (fun fl s' hs => ?_) fun e s' hs => hs)
  cases fl with
  | next =>
    obtain ⟨σ', H', J, q⟩ := hs
    exact wpAt_of_wpAny (wpAny_mono (h1.run [] s' σ' H' _ J q) key fun e s' hs => hs)
  | ret u =>
    obtain ⟨v, σ', H', J, rv, q⟩ := hs
    exact fin J rv q
  | brk =>
    obtain ⟨_, _, _, q⟩ := hs
    exact False.elim q
  | cont =>
    obtain ⟨_, _, _, q⟩ := hs
    exact False.elim q
end
section
variable {X : Cx} {pins : List (Addr × Obj)} {σ : L2.St} {H : Hp} {s : Shared}
theorem run_cmH {CX : CXT} {k : Nat} {q g C : Addr} {fd : FuncData} {ps : List Str} {sp : Sp} {E : XK} {Q : VK} {us : List Value} {vs : List V} (F : FnH X.prog X.w X.K X.mg X.base CX k g fd ps sp) (hr : RoomH k X.A) (hc : HotC X) (hb : Binds X.K fd ps []) (hx : Passes CX X E)
    (I : Inv X ((q, PySem.W.methodObj (.ref g) (.ref C)) :: pins) σ H s)
    (r : Vals vs us) (h : sp (.ref C :: vs) H Q E) : wpAny (model X.prog X.w) X.A (call (.ref q) us) (EP X pins σ Q) X.xe s := by
  have z : wpAny (model X.prog X.w) X.A (call (.ref q) us) (EP X ((q, PySem.W.methodObj (.ref g) (.ref C)) :: pins) σ Q) X.xe s := by
    refine wpAny_call (PySem.W.method_call (pin_at I) ?_)
    obtain ⟨p, hot, hp⟩ := hc
    have r2 : Vals (V.ref C :: vs) (Value.ref C :: us) := .cons rfl r
    have hl : (Value.ref C :: us).length = ps.length := by rw [← r2.length]; exact F.len _ _ _ _ h
    have b := hb s (Value.ref C :: us) I.kIn (by rw [List.append_nil]; exact hl)
    rw [List.append_nil] at b
    have P1 := I.pin p (List.mem_append_left _ hp)
    have hpin : PinOk X.stack H s p := ⟨P1.1, P1.2.1, fun hm => (List.mem_cons.mp (I.stkSub p.1 hm)).elim P1.2.2.1 P1.2.2.2.1, P1.2.2.2.2⟩
    refine codeAny_mono (F.run X.A X.stack s H ⟨Value.ref C :: us, []⟩ (Value.ref C :: us) (V.ref C :: vs) Q E p hr hot hpin I.env0 b r2 h) fun r s' hq => ?_
    cases r with
    | error e => exact hx _ σ H s e s' I hq
    | ok fl =>
      cases fl with
      | ret u => exact I.after hq
      | next => exact False.elim hq
      | brk => exact False.elim hq
      | cont => exact False.elim hq
  exact thn z fun _ _ y => unpinE y
theorem ps_supOH {body : List Stmt} {self : Str} {i j : Nat} {e : Expr} {es : List Expr} {ta : TA} {p0 p1 p2 p3 p4 : Pos} {pl : Sem Bool} {CX : CXT} {k : Nat} {f2 : Addr} {fd : FuncData} {ps : List Str} {sp : Sp} (S : SupF X self i j)
    (F : FnH X.prog X.w X.K X.mg X.base CX k f2 fd ps sp) (hr : RoomH k X.A) (hc : HotC X) (hbd : Binds X.K fd ps []) (hx : Passes CX X (fun _ _ _ => False)) (tf : PySem.W.typeIn X.K (.ref f2) = some (.type "function")) (ff : PySem.W.fnIn X.K f2 = true) (ha : PA X (e :: es) ta)
    (hi : interactive X.env = false := by rfl) (hs : swapsWith (.Call (.Attribute (.Call (.Name "super" p0) [] [] p1) "__init__" p2) (e :: es) [] p3) none p4.line X.env = pure false := by rfl)
    (he : eval (.Call (.Attribute (.Call (.Name "super" p0) [] [] p1) "__init__" p2) (e :: es) [] p3) X.env = (do
      let ov ← attributeBase (.Call (.Name "super" p0) [] [] p1) "__init__" X.env (eval (.Call (.Name "super" p0) [] [] p1) X.env)
      standAt p2.atName
      let (f, first) ← holding [ov] (getMethod ov "__init__" pl)
      callWith p3 f first (backTo p3 (starEach (e :: es) X.env)) []) := by rfl)
    (hst : starEach (e :: es) X.env = (false, eval e X.env) :: starEach es X.env := by rfl) (hpl : (backTo p3 (starEach es X.env)).any (·.1) = false := by rfl) :
    PAt X body (.Expr (.Call (.Attribute (.Call (.Name "super" p0) [] [] p1) "__init__" p2) (e :: es) [] p3) p4) (tSupO X.K i j f2 sp ta) := by
  intro pins s σ H D I ⟨a, C, Dc, h1, h2, ea, TC, hm, h⟩
  refine ks_wpAt_Expr_any ?_ hi hs
  refine ks_wpAt_MethodCall (pl := pl) ?_ he
  refine sup_base S TC I h1 h2 ea (by decide) fun so s1 I1 hso => ?_
  obtain ⟨cd, hcl, hal⟩ := sup_mro hm
  obtain ⟨of, hof, hofc⟩ : ∃ of, s1.heap.get? f2 = some of ∧ of.cls = .type "function" := by
    have tf' : (X.K.lookup f2).map (·.cls) = some (.type "function") := tf
    cases z : X.K.lookup f2 with
    | none => rw [z] at tf'; cases tf'
    | some of => rw [z] at tf'; exact ⟨of, I1.kIn _ _ z, Option.some.inj tf'⟩
  have hb := base_none I1 (Nat.le_refl _)
  obtain ⟨hh, g, dr, t, os⟩ := s1
  refine ks_wpAny_getMethod_super hso (PySem.W.looks_opaque I1.kIn TC.st) (looks_mro I1.kIn hcl) rfl I1.kIn hal hof hofc (exo_ne I1 ea TC.icC) (by decide) ?_
  have I2 : Inv X ((hh.objs.size, PySem.W.methodObj (.ref f2) (.ref a)) :: pins) σ H ⟨hh.push (PySem.W.methodObj (.ref f2) (.ref a)), g, dr, t + 1, os⟩ :=
    pin_new (t' := t + 1) I1 (fun _ _ z => Heap.get?_push_of_some _ z) (Nat.le_refl _) (Heap.get?_push_size hh rfl) (fun v z => nomatch z)
  show wpAny _ _ (callWith p3 (.ref hh.objs.size) [] (backTo p3 (starEach (e :: es) X.env)) []) _ _ _
  refine callwith_cm (C := a) (g := f2) I2 hb ff (thn (ha.run p3 _ _ σ H _ I2 h) fun us s3 ⟨vs, H1, I3, rv, q⟩ => ⟨⟨pin_at I3, I3.kIn⟩, ?_⟩) hst hpl
  have z := run_cmH F hr hc hbd hx I3 rv q
  exact thn z fun u s4 ⟨v, H2, I4, _, q4⟩ => ⟨σ, H2, I4, q4⟩
/-- C(e, ..) while an exception is handled -/
theorem pmk5_oxH {CX : CXT} {x : Str} {e : Expr} {es : List Expr} {ta : TA} {p pos : Pos} {b : Bool} {C fI : Addr} {k : Nat} {fd : FuncData} {ps : List Str} {sp : Sp} (T : OxC X.K b C) (iC : PySem.W.findIn X.K (.ref C) "__init__" = some (some (.ref fI))) (tI : PySem.W.typeIn X.K (.ref fI) = some (.type "function"))
    (F1 : FnH X.prog X.w X.K X.mg X.base CX k fI fd ps sp) (hr : RoomH (k + 1) X.A) (hc : HotC X) (hb : Binds X.K fd ps []) (hx : Passes CX X (fun _ _ _ => False)) (hg : Gl X x) (hm : X.mg x = some (.ref C)) (ha : PA X (e :: es) ta)
    (hdb : (x == ("__debug__" : Str)) = false := by decide) (he : starEach (e :: es) X.env = (false, eval e X.env) :: starEach es X.env := by rfl) (hpl : (backTo pos (starEach es X.env)).any (·.1) = false := by rfl) :
    PMk5 X (.Call (.Name x p) (e :: es) [] pos) (tMkO C sp [] ta) := by
  intro pins s σ H Q I h
  obtain ⟨nm, q, N, bs, bm, sn, sub, ab, col, dd, k0, k1, k2, k3, k5, hC, hbm⟩ := T.cls
  obtain ⟨pn, hot, hpn⟩ := hc
  refine wpAny_Call_Name_kw (ld_glob I hg hm ?_ hdb)
  refine PySem.W.callWith_K (h₀ := X.base) I.ok.mod.kin T.kC (thn (ha.run pos pins s σ H _ I h) fun us s1 ⟨vs, H1, I1, r1, hz, q1⟩ => ⟨I1.kIn, ?_⟩) he hpl
  show wpAny _ _ (call (.ref C) us) _ _ _
  obtain ⟨hp, g, dr, tk, os⟩ := s1
  have hsz : hp.objs.size ≤ hp.objs.size + 1 := Nat.le_succ _
  have hn : H1 (hp.objs.size + 1) = none := I1.hok.fresh hsz
  have hq := q1 (hp.objs.size + 1) hn
  rw [List.append_nil] at hq
  have kk : ∀ b o, hp.get? b = some o → ((hp.push (PySem.W.kdv_tup us)).push (PySem.HandSPX.excO C hp.objs.size)).get? b = some o := fun b o e => Heap.get?_push_of_some _ (Heap.get?_push_of_some _ e)
  have hget : ((hp.push (PySem.W.kdv_tup us)).push (PySem.HandSPX.excO C hp.objs.size)).get? (hp.objs.size + 1) = some (PySem.HandSPX.excO C hp.objs.size) := by heap_get
  have I2 : Inv X pins σ (upd H1 (hp.objs.size + 1) (exo (hp.objs.size + 1) C none)) ⟨(hp.push (PySem.W.kdv_tup us)).push (PySem.HandSPX.excO C hp.objs.size), g, dr, tk, os⟩ :=
    I1.laid (t' := tk) (a := hp.objs.size + 1) (o := exo (hp.objs.size + 1) C none) (h' := (hp.push (PySem.W.kdv_tup us)).push (PySem.HandSPX.excO C hp.objs.size)) kk hsz (exo_ok hget)
  have r2 : Vals (V.ref (hp.objs.size + 1) :: vs) (Value.ref (hp.objs.size + 1) :: us) := .cons rfl r1
  have hl : (Value.ref (hp.objs.size + 1) :: us ++ []).length = ps.length := by
    have e := r2.length
    rw [F1.len _ _ _ _ hq] at e
    rw [List.append_nil]
    exact e.symm
  have hus : us.length ≤ sizeLine := by
    rw [← Paired.length r1, sizeLine_eq]
    omega
  have b2 := hb _ (Value.ref (hp.objs.size + 1) :: us) I2.kIn hl
  rw [List.append_nil] at b2
  have P1 := I2.pin pn (List.mem_append_left _ hpn)
  have hpin : PinOk X.stack (upd H1 (hp.objs.size + 1) (exo (hp.objs.size + 1) C none)) ⟨(hp.push (PySem.W.kdv_tup us)).push (PySem.HandSPX.excO C hp.objs.size), g, dr, tk, os⟩ pn :=
    ⟨P1.1, P1.2.1, fun hmm => (List.mem_cons.mp (I2.stkSub pn.1 hmm)).elim P1.2.2.1 P1.2.2.2.1, P1.2.2.2.2⟩
  refine wpAny_call (PySem.ZEX.callB b hbm (I1.kIn _ _ hC) (PySem.W.looks_findIn I1.kIn iC) (fun self => PySem.W.bind_fn I1.kIn self tI) hus
    (codeAny_mono (F1.run _ X.stack _ _ ⟨Value.ref (hp.objs.size + 1) :: us, []⟩ (Value.ref (hp.objs.size + 1) :: us) _ _ (fun _ _ _ => False) pn (hr.make C us []) ⟨hot.1, hot.2⟩ hpin (I2.env0.make C us []) b2 r2 hq) fun r s' hq' => ?_))
  cases r with
  | error er => exact hx pins σ _ _ er s' I2 hq'
  | ok fl =>
    cases fl with
    | ret u =>
      obtain ⟨v, H2, os2, bare2, un2, hok2, rv, ev, d, fs, ea, ed, hd1, q2⟩ := hq'
      subst ev
      obtain ⟨h2, g2, d2, t2, os'⟩ := s'
      obtain ⟨t0, G, J, kG, ge, hoe, na⟩ := mk_end0 (d2 := d2) (t2 := t2) I1 hsz kk un2 hok2 os2 bare2 ea ed hd1
      refine ⟨rv, ⟨hp.objs.size + 1, _, _, ⟨G, g2, d2, t2, os'⟩, _, .ref C, some d, rfl, J, kG, ge, hoe, ⟨rfl, rfl, fun vs hv => ?_⟩, rfl, rfl, na, rfl, bare2, raises_own T.exC T.tyC, q2⟩, fun a oe vs ea2 hg2 hd2 => ?_⟩
      · cases hv
        rfl
      · cases ea2
        have hg3 : h2.get? (hp.objs.size + 1) = some oe := hg2
        rw [hoe] at hg3
        cases hg3
        cases hd2
        show (4 : Nat) < 6
        decide
    | next => exact False.elim hq'
    | brk => exact False.elim hq'
    | cont => exact False.elim hq'
/-- C(e, ..) where nothing is handled: its context is None -/
theorem pmk_oxN {CX : CXT} {x : Str} {e : Expr} {es : List Expr} {ta : TA} {p pos : Pos} {b : Bool} {C fI : Addr} {k : Nat} {fd : FuncData} {ps : List Str} {sp : Sp} {ds : List Value} {dvs : List V} (T : OxC X.K b C) (iC : PySem.W.findIn X.K (.ref C) "__init__" = some (some (.ref fI))) (tI : PySem.W.typeIn X.K (.ref fI) = some (.type "function"))
    (F1 : FnOk X.prog X.w X.K X.mg X.base CX k fI fd ps sp) (hr : Room (k + 1) X.A) (hb : Binds X.K fd ps ds) (hd : Vals dvs ds) (hx : Passes CX X (fun _ _ _ => False)) (hg : Gl X x) (hm : X.mg x = some (.ref C)) (ha : PA X (e :: es) ta)
    (hdb : (x == ("__debug__" : Str)) = false := by decide) (he : starEach (e :: es) X.env = (false, eval e X.env) :: starEach es X.env := by rfl) (hpl : (backTo pos (starEach es X.env)).any (·.1) = false := by rfl) :
    L2N.PMk X (.Call (.Name x p) (e :: es) [] pos) (tMkO C sp dvs ta) := by
  intro pins s σ H Q I h
  obtain ⟨nm, q, N, bs, bm, sn, sub, ab, col, dd, k0, k1, k2, k3, k5, hC, hbm⟩ := T.cls
  refine wpAny_Call_Name_kw (ld_glob I hg hm ?_ hdb)
  refine PySem.W.callWith_K (h₀ := X.base) I.ok.mod.kin T.kC (thn (ha.run pos pins s σ H _ I h) fun us s1 ⟨vs, H1, I1, r1, hz, q1⟩ => ⟨I1.kIn, ?_⟩) he hpl
  show wpAny _ _ (call (.ref C) us) _ _ _
  obtain ⟨hp, g, dr, tk, os⟩ := s1
  have hsz : hp.objs.size ≤ hp.objs.size + 1 := Nat.le_succ _
  have hn : H1 (hp.objs.size + 1) = none := I1.hok.fresh hsz
  have hq := q1 (hp.objs.size + 1) hn
  have kk : ∀ b o, hp.get? b = some o → ((hp.push (PySem.W.kdv_tup us)).push (PySem.HandSPX.excO C hp.objs.size)).get? b = some o := fun b o e => Heap.get?_push_of_some _ (Heap.get?_push_of_some _ e)
  have hget : ((hp.push (PySem.W.kdv_tup us)).push (PySem.HandSPX.excO C hp.objs.size)).get? (hp.objs.size + 1) = some (PySem.HandSPX.excO C hp.objs.size) := by heap_get
  have I2 : Inv X pins σ (upd H1 (hp.objs.size + 1) (exo (hp.objs.size + 1) C none)) ⟨(hp.push (PySem.W.kdv_tup us)).push (PySem.HandSPX.excO C hp.objs.size), g, dr, tk, os⟩ :=
    I1.laid (t' := tk) (a := hp.objs.size + 1) (o := exo (hp.objs.size + 1) C none) (h' := (hp.push (PySem.W.kdv_tup us)).push (PySem.HandSPX.excO C hp.objs.size)) kk hsz (exo_ok hget)
  have r2 : Vals (V.ref (hp.objs.size + 1) :: (vs ++ dvs)) (Value.ref (hp.objs.size + 1) :: (us ++ ds)) := .cons rfl (r1.append hd)
  have hl : (Value.ref (hp.objs.size + 1) :: us ++ ds).length = ps.length := by
    have e := r2.length
    rw [F1.len _ _ _ _ hq] at e
    exact e.symm
  have hus : us.length ≤ sizeLine := by
    rw [← Paired.length r1, sizeLine_eq]
    omega
  refine wpAny_call (PySem.ZEX.callB b hbm (I1.kIn _ _ hC) (PySem.W.looks_findIn I1.kIn iC) (fun self => PySem.W.bind_fn I1.kIn self tI) hus
    (codeAny_mono (F1.run _ X.stack _ _ ⟨Value.ref (hp.objs.size + 1) :: us, []⟩ (Value.ref (hp.objs.size + 1) :: (us ++ ds)) _ _ (fun _ _ _ => False) (hr.make C us []) (I2.env0.make C us []) (hb _ (Value.ref (hp.objs.size + 1) :: us) I2.kIn hl) r2 hq) fun r s' hq' => ?_))
  cases r with
  | error er => exact hx pins σ _ _ er s' I2 hq'
  | ok fl =>
    cases fl with
    | ret u =>
      obtain ⟨v, H2, os2, bare2, un2, hok2, rv, ev, d, fs, ea, ed, hd1, q2⟩ := hq'
      subst ev
      obtain ⟨h2, g2, d2, t2, os'⟩ := s'
      obtain ⟨t0, G, J, kG, ge, hoe, na⟩ := mk_end0 (d2 := d2) (t2 := t2) I1 hsz kk un2 hok2 os2 bare2 ea ed hd1
      refine ⟨rv, hp.objs.size + 1, _, _, ⟨G, g2, d2, t2, os'⟩, _, .ref C, some d, rfl, J, kG, ge, hoe, ⟨rfl, rfl, fun vs hv => ?_⟩, rfl, rfl, na, rfl, bare2, raises_own T.exC T.tyC, q2⟩
      cases hv
      rfl
    | next => exact False.elim hq'
    | brk => exact False.elim hq'
    | cont => exact False.elim hq'
end
/-! ### except (A, B): a suite that raises -/
theorem flyingZ_keeps {B h h' : Heap} {l : List Env} {a : Addr} {Z : Obj → Prop} (x : HandSPX.FlyingZ B l a Z h) (k : ∀ b o, h.get? b = some o → h'.get? b = some o) : HandSPX.FlyingZ B l a Z h' := by
  obtain ⟨f1, f2, f3, oe, vs, T, oT, ts, g1, g2, g3, g4, g5, g6, g7, g8, g9⟩ := x
  exact ⟨fun b o e => k _ _ (f1 b o e), f2, f3.of_keeps (fun b o e _ => ⟨o, k _ _ e, rfl⟩), oe, vs, T, oT, ts, k _ _ g1, g2, g3, g4, g5, g6, k _ _ g7, g8, g9⟩
section
variable {X : Cx} {x1 x2 : Str} {c1 c2 : Value} {p1 p2 tpos : Pos} {kk : Nat} {body suite : List Stmt} {b₀ : Stmt} {pos' pos : Pos} {tb : WX → TS} {ts : TsX} {Wout : WX}
def wTupX (K : PySem.W.Frag) (Wout : WX) (D : Ends) (c1 c2 : Value) (ts : TsX) : WX := fun cls d σ H => ∃ b, PySem.W.exmAny K cls [c1, c2] = some b ∧ (b = true → ∀ a, H a = none → ts a cls d D σ H) ∧ (b = false → Wout cls d σ H)
theorem ps_try_tup2X (hs : X.stack = X.env :: X.outer) (hf : X.env.frame = some X.env.locals) (hc1 : Names X x1 c1) (hc2 : Names X x2 c2) (hpa : ∀ hd : Option Value, PassesOwnAt (model X.prog X.w) (X.A.mark hd) X.A X.env X.xe) (tk : L2.Takes X Wout)
    (hb : ∀ (W : WX) (pn : List (Addr × Obj)) (xe : Value → Shared → Prop), L2N.Takes (X.tr pn xe) W → PassesOwn (model X.prog X.w) X.A X.env xe → PSs (X.tr pn xe) body (tb W))
    (hsu : ∀ (a : Addr) (oe : Obj) (cls : Value) (d : Option Addr) (pn : List (Addr × Obj)), L2N.Zn cls d oe → (∃ vs, oe.data = .fields vs) → L2.Takes (suiteX X a ((a, oe) :: pn)) Wout → HotC (suiteX X a ((a, oe) :: pn)) →
      PSs (suiteX X a ((a, oe) :: pn)) (b₀ :: suite) (ts a cls d)) :
    PS X (.Try body [.ExceptHandler (some (.Tuple [.Name x1 p1, .Name x2 p2] kk tpos)) none (b₀ :: suite) pos'] [] [] pos) (fun D σ H => tb (wTupX X.K Wout D c1 c2 ts) D σ H) := by
  refine ⟨fun pins s σ H D I h => wpAny_Try_except ?_⟩
  have ok := I.ok
  have hfr : X.A.frames = some (X.env :: X.outer) := by rw [ok.frames, hs]
  refine wpAny_mono ((hb (wTupX X.K Wout D c1 c2 ts) (X.pn ++ pins) (fun e s₁ => wpAny (model X.prog X.w) X.A (noteFrame e X.env) (fun _ s₂ => wpAny (model X.prog X.w) X.A (setFlight e none) (fun _ s₃ =>
    wpAny (model X.prog X.w) X.A (handleBy e X.env [.ExceptHandler (some (.Tuple [.Name x1 p1, .Name x2 p2] kk tpos)) none (b₀ :: suite) pos']) (SP X pins D) X.xe s₃) X.xe s₂) X.xe s₁) (fun u s' xx => ?_) PassesOwn.looking).run [] s σ H D (I.toTry _) h) (fun f s1 q => ?_) (fun e s1 he => he)
  · obtain ⟨a, B, sI, pins', σ', H', cls, d, rfl, J', nb, up, sky, na, os, ag, w⟩ := xx
    refine L2N.Sky.land (outer := X.outer) L2N.Zn.steady hfr hf (by rw [← hs]; exact sky) fun h3 fl3 up3 => ?_
    have zc : ∀ {h : Heap}, HandSPX.FlyingZ B (X.env :: X.outer) a (L2N.Zn cls d) h → HandSPX.FlyingZ B (X.env :: X.outer) a (Zc cls d) h := fun {h} z => flyingZ_imp (fun o z => z.zc) z
    have C : Air X pins σ' H' sI B a cls d { s' with heap := h3 } := ⟨J'.ofTry ok, nb, up.trans up3, zc fl3, na, os, ag⟩
    obtain ⟨b, hb', hy, hn⟩ := w
    refine wpAny_handleBy_cons (codeAny_handlers_test (C.asks2 hf hc1 hc2 hb' fun h' k => ?_)) (by intro q; cases q)
    have C' := C.keeps k
    have fl' : HandSPX.FlyingZ B (X.env :: X.outer) a (L2N.Zn cls d) h' := flyingZ_keeps fl3 k
    cases b with
    | false => exact C'.out hs hf tk (hn rfl)
    | true =>
      refine codeAny_handlers_suite (HandSPX.lands_againZ fl' fun h4 fl4 up4 => ?_)
      have C4 : Air X pins σ' H' sI B a cls d { s' with heap := h4 } := ⟨C'.inv, C'.nb, C'.up.trans up4, zc fl4, C'.na, C'.os, C'.ag⟩
      obtain ⟨oe4, vs4, he4, hz4, hd4⟩ := fl4.there
      have S4 : Inv (X.suite a ((a, oe4) :: (X.pn ++ pins))) [] σ' H' { s' with heap := h4 } := C4.land.suite he4 hd4 na (C4.off hf).1 (C4.off hf).2
      have tkS : L2.Takes (suiteX X a ((a, oe4) :: (X.pn ++ pins))) Wout := fun u2 s2 x2 => by
        obtain ⟨a2, B2, sI2, pn2, σ2, H2, cls2, d2, e2, I2, nb2, up2, sky2, na2, os2, ag2, w2⟩ := x2
        exact tk u2 s2 ⟨a2, B2, sI2, pins, σ2, H2, cls2, d2, e2, unsuiteX I2 ok, nb2, up2, sky2, na2, os2, ag2, w2⟩
      have hot : HotC (suiteX X a ((a, oe4) :: (X.pn ++ pins))) := ⟨(a, oe4), ⟨rfl, vs4, hd4, hz4.2.2 vs4 hd4⟩, List.mem_cons_self⟩
      refine wpAny_mono ((hsu a oe4 cls d (X.pn ++ pins) hz4 ⟨_, hd4⟩ tkS hot).run [] _ _ H' _ (suiteX_of S4) (hy rfl a na)) (fun f s6 hsp => ?_) (fun e6 s6 z => hpa (some (.ref a)) e6 s6 z)
      cases f with
      | ret u =>
        obtain ⟨v6, σ6, H6, S6, r6, q6⟩ := hsp
        exact ⟨_, _, _, unsuiteX S6 ok, r6, q6⟩
      | _ =>
        obtain ⟨σ6, H6, S6, q6⟩ := hsp
        exact ⟨_, _, unsuiteX S6 ok, q6⟩
  · cases f with
    | next =>
      obtain ⟨σ', H', J', q⟩ := q
      exact wpAny_execs_nil ⟨σ', H', J'.ofTry ok, q⟩
    | ret u =>
      obtain ⟨v, σ', H', J', r, q⟩ := q
      exact ⟨v, σ', H', J'.ofTry ok, r, q⟩
    | brk =>
      obtain ⟨σ', H', J', q⟩ := q
      exact ⟨σ', H', J'.ofTry ok, q⟩
    | cont =>
      obtain ⟨σ', H', J', q⟩ := q
      exact ⟨σ', H', J'.ofTry ok, q⟩
end
/-! ### defs that raise where nothing is handled -/
theorem passesN {X : Cx} {W : WX} {E : XK} (tk : L2N.Takes X W) (h : ∀ cls d σ H, E cls d H → W cls d σ H) : Passes (L2N.CX X.prog X.w) X E := L2N.passes_call tk h
/-- Fun.okX over L2N.CX -/
theorem okXN {P : Program} {w : World} {K : PySem.W.Frag} {mg : Str → Option Value} {base : Heap} {x qual : Str} {st : Stmt} {f : Addr} {fd : FuncData} {N ps : List Str} {k : Nat} {sp : Sp} (F : Fun K x qual st f fd) (S : FnScope N ps (defScope st)) (len : ∀ vs H Q E, sp vs H Q E → vs.length = ps.length)
    (hbody : ∀ (cdv : Value) (A : Around) (outer : List Env) (s : Shared) (H : Hp) (vs : List V) (Q : VK) (E : XK), Room k (A.deeper (envOfC qual (defScope st) s.heap.objs.size f cdv)) → sp vs H Q E →
      ∃ t, PSs (cxOf (L2N.CX P w) P w K mg base N qual (defScope st) f cdv A outer s H E) (defBody st) t ∧ t { nx := fun _ H' => Q .non H', rt := Q } (start N vs) H) : FnOk P w K mg base (L2N.CX P w) (k + 1) f fd ps sp := by
  obtain ⟨oc, od, kV, doc, pm, an, cdv, ct, osl, rfl, lk, hcd⟩ := F.ex
  exact fn_of lk hcd S len fun A outer s H vs Q E hr hsp => hbody cdv A outer s H vs Q E hr hsp
end L2H

set_option Elab.async false
set_option linter.all false
set_option maxRecDepth 100000
/-! any key in a dict of the module: what its keys are -/
namespace L2
open PySem PySem.Spec PyProof.Rows
def keyS : Value → Option Str
  | .str x _ => some x
  | _ => none
theorem miss_of {K : PySem.W.Frag} {B : Addr} {es : Array DictEntry} {n : Nat} {c : Value} {d : Option Addr} {sl : Array (Option Value)} {ks : List Str} {z : Str} (ld : K.lookup B = some ⟨c, d, .dict es n, sl⟩) (hk : es.toList.map (fun e => keyS e.key) = ks.map some) (hz : z ∉ ks) : PySem.W.nsIn K B z = some none := by
  have key : ∀ e ∈ es.toList, ∃ x t, e.key = .str x t ∧ x ∈ ks := fun e he => by
    have h1 : keyS e.key ∈ ks.map some := by
      rw [← hk]
      exact List.mem_map.mpr ⟨e, he, rfl⟩
    obtain ⟨x, hx, hxe⟩ := List.mem_map.mp h1
    cases hv : e.key with
    | str y t =>
      rw [hv] at hxe
      cases hxe
      exact ⟨_, t, rfl, hx⟩
    | _ =>
      rw [hv] at hxe
      cases hxe
  unfold PySem.W.nsIn
  rw [ld]
  dsimp only
  have h1 : es.toList.find? (·.key.isStr z) = none := by
    rw [List.find?_eq_none]
    intro e he
    obtain ⟨x, t, e1, e2⟩ := key e he
    rw [e1]
    intro q
    have : x = z := by simpa [Value.isStr] using q
    exact hz (this ▸ e2)
  rw [h1]
  dsimp only
  have h2 : es.toList.any (·.refKey) = false := by
    rw [List.any_eq_false]
    intro e he
    obtain ⟨x, t, e1, e2⟩ := key e he
    unfold DictEntry.refKey
    rw [e1]
    simp
  rw [h2]
  rfl
end L2

set_option Elab.async false
set_option maxRecDepth 100000
set_option maxHeartbeats 4000000
set_option linter.all false
namespace Q
open PySem L2 Z
def top (i : Nat) : Stmt := PySem.Challenge.pw_pikeroll_k31_texts_that_are_no_pages.main.body.getD i (.Pass ⟨0, 0, 0, 0⟩)
abbrev s_p_is_number : Stmt := top 9
abbrev s_p_is_good : Stmt := top 10
abbrev s_p_are_rising : Stmt := top 11
abbrev s_p_need_fact : Stmt := top 12
abbrev s_p_fact_text : Stmt := top 18
abbrev s_p_page_of : Stmt := top 19
abbrev s_p_is_number_text : Stmt := top 20
abbrev s_p_read_numbers : Stmt := top 21
abbrev s_p_read_fact : Stmt := top 22
abbrev s_p_tell_row : Stmt := top 23
abbrev s_p_read_page : Stmt := top 24
abbrev s_l_bag : Stmt := top 26
abbrev s_l_pull : Stmt := top 27
abbrev s_l_like : Stmt := top 28
abbrev s_l_gate : Stmt := top 29
abbrev s_l_day : Stmt := top 30
abbrev s_l_board : Stmt := top 31
abbrev s_l_passing : Stmt := top 32
abbrev s_l_stretch : Stmt := top 33
abbrev s_l_fact : Stmt := top 34
abbrev s_l_fact_place : Stmt := top 35
abbrev s_l_text : Stmt := top 36
abbrev s_l_number_read : Stmt := top 37
abbrev s_l_fact_read : Stmt := top 38
abbrev s_l_words_bent : Stmt := top 39
abbrev s_l_sign : Stmt := top 40
abbrev s_l_text_bent : Stmt := top 41
abbrev s_l_told : Stmt := top 42
abbrev s_l_wrong : Stmt := top 43
abbrev s_c_Roll_init : Stmt := inClass (top 15) 0
abbrev s_c_Roll_enter : Stmt := inClass (top 15) 4
abbrev s_c_Roll_tell : Stmt := inClass (top 15) 6
abbrev s_c_Roll_facts : Stmt := inClass (top 15) 11
abbrev s_c_PikeError_init : Stmt := inClass (top 2) 0
abbrev s_c_BadFact_init : Stmt := inClass (top 3) 0
abbrev s_c_BadPage_init : Stmt := inClass (top 5) 0
abbrev s_law : Stmt := top 44

local macro_rules | `(tactic| walk_at "z0") => `(tactic| try dsimp only [L2.cxOf, L2.Cx.nox, L2.Cx.wish])
local macro_rules | `(tactic| walk_at "zside") => `(tactic| first
  | decide | omega | exact ⟨by omega, by omega⟩ | exact Or.inr ⟨by omega, by omega⟩ | exact Or.inl ⟨by omega, by omega⟩ | exact ⟨by decide, by decide⟩ | exact ⟨by decide, by decide, by decide⟩ | (dsimp only; omega))
local macro_rules | `(tactic| walk_at "zex") => `(tactic| first | assumption | exact Ex.refl | (refine Ex.trans ?_ (by assumption); walk_at "zex"))
local macro_rules | `(tactic| walk_at "zbag") => `(tactic| first | assumption | (apply Bag.ext; assumption; walk_at "zex"))
local macro_rules | `(tactic| walk_at "zne") => `(tactic| first | assumption | exact Ne.symm (by assumption) | (apply neb_of; assumption; walk_at "zbag") | (apply nec_of; assumption; walk_at "zbag"))
local macro_rules | `(tactic| walk_at "zhp") => `(tactic| first | assumption | exact upd_same | (refine upd_at ?_ ?_; (focus (walk_at "zne")); walk_at "zhp") | (apply ex_at; assumption; walk_at "zhp") | (apply fr_at; assumption; (focus (walk_at "zne")); walk_at "zhp"))
local macro_rules | `(tactic| walk_at "zkb") => `(tactic| first | with_reducible exact kb_int_tuple | with_reducible exact kb_int_list | with_reducible exact kb_int_bool | with_reducible exact kb_int_int | with_reducible exact kb_str_tuple | with_reducible exact kb_str_list | with_reducible exact kb_str_bool | with_reducible exact kb_str_int | with_reducible exact kb_bool_tuple | with_reducible exact kb_bool_list | with_reducible exact kb_bool_bool | with_reducible exact kb_bool_int | with_reducible exact kb_NoneType_tuple | with_reducible exact kb_NoneType_list | with_reducible exact kb_NoneType_bool | with_reducible exact kb_NoneType_int | with_reducible exact kb_tuple_tuple | with_reducible exact kb_tuple_list | with_reducible exact kb_tuple_bool | with_reducible exact kb_tuple_int | with_reducible exact kb_list_tuple | with_reducible exact kb_list_list | with_reducible exact kb_list_bool | with_reducible exact kb_list_int)
local macro_rules | `(tactic| walk_at "zsz") => `(tactic| first | exact sz (by decide) | exact sz (by simp) | exact sz (by omega))
local macro_rules | `(tactic| walk_at "zex") => `(tactic| first | assumption | exact Ex.refl | (refine Ex.trans ?_ (by assumption); walk_at "zex"))
local macro_rules | `(tactic| walk_at "zsL") => `(tactic| first | exact SqL.of (by walk_at "zhp") | assumption | (apply sqL_ex; assumption; walk_at "zex"))
local macro_rules | `(tactic| walk_at "zsT") => `(tactic| first | exact SqT.of (by walk_at "zhp") | assumption | (apply sqT_ex; assumption; walk_at "zex"))
local macro_rules | `(tactic| walk_at "zsq") => `(tactic| first | walk_at "zsL" | walk_at "zsT" | (apply Or.inl; walk_at "zsL") | (apply Or.inr; walk_at "zsT"))
local macro_rules | `(tactic| walk_at "zty") => `(tactic| first | assumption | exact .base (.int _) | exact .base (.bl _) | exact .base (.str _) | exact .base .non | exact ty_sqT (by walk_at "zsq") | exact ty_sqL (by walk_at "zsq"))
local macro_rules | `(tactic| walk_at "zbag") => `(tactic| first | assumption | (apply Bag.ext; assumption; walk_at "zex"))
local macro_rules | `(tactic| walk_at "zpull") => `(tactic| (apply use_pull; (focus (walk_at "zbag")); (focus (first | exact ⟨by decide, by decide⟩ | exact ⟨by omega, by omega⟩ | (exact ⟨by simp; omega, by simp; omega⟩))); intro _ _ _ _ _ _))
local macro_rules | `(tactic| walk_at "zin") => `(tactic| repeat (first | exact intIn_nil | (refine intIn_cons ⟨?_, ?_⟩ ?_; (focus omega); (focus omega)) | (refine intIn_cons ?_ ?_; (focus (first | assumption | exact ⟨by omega, by omega⟩)))))
local macro_rules | `(tactic| walk_at "zfr") => `(tactic| first | assumption | exact Fr.refl | (refine Fr.trans ?_ (by assumption); walk_at "zfr") | (refine Fr.trans ?_ (Ex.fr _ (by assumption)); walk_at "zfr"))
local macro_rules | `(tactic| walk_at "zdp") => `(tactic| repeat' (first | exact DpAll.nil | apply DpAll.cons | exact Dp.int _ | exact Dp.str _ | exact Dp.bl _ | exact Dp.non | assumption))
local macro_rules | `(tactic| walk_at "zR") => `(tactic| first | assumption | exact ⟨by omega, by omega⟩)
local macro_rules | `(tactic| walk_at "z1") => `(tactic| first
  | ((with_reducible apply s_var); exact rfl)
  | with_reducible refine s_C ?_
  | with_reducible refine s_op ?_
  | ((with_reducible apply s_rI); (focus (walk_at "zside")))
  | with_reducible refine s_rI0 ?_
  | with_reducible refine s_rEqI ?_
  | with_reducible refine s_rNeI ?_
  | with_reducible refine s_rEqS ?_
  | with_reducible refine s_rNeS ?_
  | with_reducible refine s_rEqB ?_
  | with_reducible refine s_rNeB ?_
  | ((with_reducible apply s_ixL); (focus (walk_at "zsq")); (focus (exact rfl)))
  | ((with_reducible apply s_ixT); (focus (walk_at "zsq")); (focus (exact rfl)))
  | ((with_reducible apply s_rLen); (focus (walk_at "zsq")))
  | with_reducible refine s_rAbs ?_
  | with_reducible refine s_rMax2 ?_
  | with_reducible refine s_rMin2 ?_
  | with_reducible refine s_rInt1 ?_
  | with_reducible refine s_rIntB ?_
  | with_reducible refine s_rIsN ?_
  | with_reducible refine s_rNotN ?_
  | with_reducible refine s_rFind ?_
  | ((with_reducible apply s_newS); (focus (walk_at "zsz")); intro _ _ _ _ _)
  | ((with_reducible apply s_new); intro _ _ _ _ _)
  | ((with_reducible apply s_slL); (focus (walk_at "zsq")))
  | ((with_reducible apply s_isi); (focus (walk_at "zty")); (focus (walk_at "zkb")))
  | ((with_reducible apply s_isiTL); (focus (walk_at "zhp")); (focus (walk_at "zty")); (focus (walk_at "zkb")); (focus (walk_at "zkb")))
  | ((with_reducible apply s_rListOf); (focus (walk_at "zsq")))
  | ((with_reducible apply s_rTupleOf); (focus (walk_at "zsq")))
  | ((with_reducible apply s_rDivmod); (focus (walk_at "zside")))
  | ((with_reducible apply s_rRjust); (focus (exact rfl)))
  | ((with_reducible apply s_rEq); (focus (exact rfl)))
  | ((with_reducible apply s_rNe); (focus (exact rfl)))
  | with_reducible refine s_tB ?_
  | with_reducible refine s_tTest ?_
  | with_reducible refine s_bl ?_
  | with_reducible refine s_nil ?_
  | with_reducible refine s_cons ?_
  | with_reducible refine s_CB ?_
  | with_reducible refine s_call ?_
  | walk_at "zpull"
  | ((with_reducible apply use_int); (focus (walk_at "zbag")); intro _ _ _ _ _ _)
  | with_reducible refine s_seq ?_
  | ((with_reducible refine s_set ?_); try dsimp only [List.set_cons_zero, List.set_cons_succ])
  | with_reducible refine s_ifS ?_
  | with_reducible refine s_ret ?_
  | with_reducible refine s_drop ?_
  | with_reducible refine s_next ?_
  | with_reducible refine s_and ?_
  | with_reducible refine s_or ?_
  | with_reducible refine s_not ?_
  | with_reducible refine s_andV ?_
  | with_reducible refine s_orV ?_
  | with_reducible refine s_notV ?_
  | with_reducible refine s_ifE ?_
  | with_reducible refine s_un ?_
  | with_reducible refine s_rU ?_
  | with_reducible refine s_chain ?_
  | with_reducible refine s_tup ?_
  | with_reducible refine s_lst ?_
  | with_reducible refine s_sl ?_
  | with_reducible refine s_noPart ?_
  | with_reducible refine s_part ?_
  | with_reducible refine s_partI ?_
  | ((with_reducible refine s_gName ?_); try dsimp only [List.set_cons_zero, List.set_cons_succ])
  | with_reducible refine s_gSub ?_
  | ((with_reducible apply s_gTup); (focus (walk_at "zsq")); (focus (exact rfl)))
  | with_reducible refine s_gCons ?_
  | with_reducible refine s_gNil ?_
  | with_reducible refine s_asg ?_
  | with_reducible refine s_par ?_
  | ((with_reducible refine s_parI ?_); try dsimp only [List.set_cons_zero, List.set_cons_succ])
  | with_reducible refine s_fld ?_
  | with_reducible refine s_bm ?_
  | with_reducible refine s_bm0 ?_
  | with_reducible refine s_m0 ?_
  | with_reducible refine s_m1 ?_
  | with_reducible refine s_for ?_
  | with_reducible refine s_iRng1 ?_
  | with_reducible refine s_iRng2 ?_
  | with_reducible refine s_iList ?_
  | with_reducible refine s_iTup ?_
  | with_reducible refine s_iStr ?_
  | with_reducible refine s_iEnum ?_
  | with_reducible refine ite_t ?_
  | with_reducible refine ite_f ?_
  | with_reducible refine s_isStr ?_
  | with_reducible refine s_callS ?_
  | with_reducible refine s_rNotInS ?_
  | with_reducible refine s_rInS ?_
  | with_reducible refine s_tFmt ?_
  | with_reducible refine s_tFS ?_
  | with_reducible refine s_jsNil ?_
  | with_reducible refine s_jsCons ?_
  | with_reducible refine s_tRevL ?_
  | ((with_reducible apply s_revV); (focus (walk_at "zsq")))
  | with_reducible refine s_tyS ?_
  | ((with_reducible apply s_tyL); (focus (walk_at "zsq")))
  | ((with_reducible apply s_rRjust2); (focus (exact ⟨by decide, by decide⟩)))
  | with_reducible refine s_lc ?_
  | with_reducible refine s_yes ?_
  | ((with_reducible apply ite_fE); (focus (exact rfl)))
  | ((with_reducible apply ite_tE); (focus (exact rfl))))
local macro_rules | `(tactic| walk_at "z") => `(tactic| repeat (walk_at "z1"))

structure Tx_0 (P : Program) (K : PySem.W.Frag) (mg : Str → Option Value) (w : World) where
  f_p_is_number : Addr
  d_p_is_number : FuncData
  F_p_is_number : Fun K "is_number" "is_number" s_p_is_number f_p_is_number d_p_is_number
  g_p_is_number : mg "is_number" = some (.ref f_p_is_number)
  b_p_is_number : Binds K d_p_is_number ["thing"] []
  f_p_is_good : Addr
  d_p_is_good : FuncData
  F_p_is_good : Fun K "is_good" "is_good" s_p_is_good f_p_is_good d_p_is_good
  g_p_is_good : mg "is_good" = some (.ref f_p_is_good)
  b_p_is_good : Binds K d_p_is_good ["kind", "number"] []
  f_p_are_rising : Addr
  d_p_are_rising : FuncData
  F_p_are_rising : Fun K "are_rising" "are_rising" s_p_are_rising f_p_are_rising d_p_are_rising
  g_p_are_rising : mg "are_rising" = some (.ref f_p_are_rising)
  b_p_are_rising : Binds K d_p_are_rising ["kind", "numbers"] []
  f_p_need_fact : Addr
  d_p_need_fact : FuncData
  F_p_need_fact : Fun K "need_fact" "need_fact" s_p_need_fact f_p_need_fact d_p_need_fact
  g_p_need_fact : mg "need_fact" = some (.ref f_p_need_fact)
  b_p_need_fact : Binds K d_p_need_fact ["fact"] []
  f_p_fact_text : Addr
  d_p_fact_text : FuncData
  F_p_fact_text : Fun K "fact_text" "fact_text" s_p_fact_text f_p_fact_text d_p_fact_text
  g_p_fact_text : mg "fact_text" = some (.ref f_p_fact_text)
  b_p_fact_text : Binds K d_p_fact_text ["fact"] []
  f_p_page_of : Addr
  d_p_page_of : FuncData
  F_p_page_of : Fun K "page_of" "page_of" s_p_page_of f_p_page_of d_p_page_of
  g_p_page_of : mg "page_of" = some (.ref f_p_page_of)
  b_p_page_of : Binds K d_p_page_of ["roll"] []
  f_p_is_number_text : Addr
  d_p_is_number_text : FuncData
  F_p_is_number_text : Fun K "is_number_text" "is_number_text" s_p_is_number_text f_p_is_number_text d_p_is_number_text
  g_p_is_number_text : mg "is_number_text" = some (.ref f_p_is_number_text)
  b_p_is_number_text : Binds K d_p_is_number_text ["word"] []
  f_p_read_numbers : Addr
  d_p_read_numbers : FuncData
  F_p_read_numbers : Fun K "read_numbers" "read_numbers" s_p_read_numbers f_p_read_numbers d_p_read_numbers
  g_p_read_numbers : mg "read_numbers" = some (.ref f_p_read_numbers)
  b_p_read_numbers : Binds K d_p_read_numbers ["words"] []
  f_p_read_fact : Addr
  d_p_read_fact : FuncData
  F_p_read_fact : Fun K "read_fact" "read_fact" s_p_read_fact f_p_read_fact d_p_read_fact
  g_p_read_fact : mg "read_fact" = some (.ref f_p_read_fact)
  b_p_read_fact : Binds K d_p_read_fact ["words"] []
  f_p_tell_row : Addr
  d_p_tell_row : FuncData
  F_p_tell_row : Fun K "tell_row" "tell_row" s_p_tell_row f_p_tell_row d_p_tell_row
  g_p_tell_row : mg "tell_row" = some (.ref f_p_tell_row)
  b_p_tell_row : Binds K d_p_tell_row ["roll", "at", "row"] []
  f_p_read_page : Addr
  d_p_read_page : FuncData
  F_p_read_page : Fun K "read_page" "read_page" s_p_read_page f_p_read_page d_p_read_page
  g_p_read_page : mg "read_page" = some (.ref f_p_read_page)
  b_p_read_page : Binds K d_p_read_page ["text"] []
  f_l_bag : Addr
  d_l_bag : FuncData
  F_l_bag : Fun K "_law_bag" "_law_bag" s_l_bag f_l_bag d_l_bag
  g_l_bag : mg "_law_bag" = some (.ref f_l_bag)
  b_l_bag : Binds K d_l_bag ["_law_script"] []
  f_l_pull : Addr
  d_l_pull : FuncData
  F_l_pull : Fun K "_law_pull" "_law_pull" s_l_pull f_l_pull d_l_pull
  g_l_pull : mg "_law_pull" = some (.ref f_l_pull)
  b_l_pull : Binds K d_l_pull ["_law_bag_here", "_law_amount"] []
  f_l_like : Addr
  d_l_like : FuncData
  F_l_like : Fun K "_law_like" "_law_like" s_l_like f_l_like d_l_like
  g_l_like : mg "_law_like" = some (.ref f_l_like)
  b_l_like : Binds K d_l_like ["_law_found", "_law_due"] []
  f_l_gate : Addr
  d_l_gate : FuncData
  F_l_gate : Fun K "_law_gate" "_law_gate" s_l_gate f_l_gate d_l_gate
  g_l_gate : mg "_law_gate" = some (.ref f_l_gate)
  b_l_gate : Binds K d_l_gate ["_law_bag_here"] []
  f_l_day : Addr
  d_l_day : FuncData
  F_l_day : Fun K "_law_day" "_law_day" s_l_day f_l_day d_l_day
  g_l_day : mg "_law_day" = some (.ref f_l_day)
  b_l_day : Binds K d_l_day ["_law_bag_here"] []
  f_l_board : Addr
  d_l_board : FuncData
  F_l_board : Fun K "_law_board" "_law_board" s_l_board f_l_board d_l_board
  g_l_board : mg "_law_board" = some (.ref f_l_board)
  b_l_board : Binds K d_l_board ["_law_bag_here"] []
  f_l_passing : Addr
  d_l_passing : FuncData
  F_l_passing : Fun K "_law_passing" "_law_passing" s_l_passing f_l_passing d_l_passing
  g_l_passing : mg "_law_passing" = some (.ref f_l_passing)
  b_l_passing : Binds K d_l_passing ["_law_bag_here"] []
  f_l_stretch : Addr
  d_l_stretch : FuncData
  F_l_stretch : Fun K "_law_stretch" "_law_stretch" s_l_stretch f_l_stretch d_l_stretch
  g_l_stretch : mg "_law_stretch" = some (.ref f_l_stretch)
  b_l_stretch : Binds K d_l_stretch ["_law_bag_here"] []
  f_l_fact : Addr
  d_l_fact : FuncData
  F_l_fact : Fun K "_law_fact" "_law_fact" s_l_fact f_l_fact d_l_fact
  g_l_fact : mg "_law_fact" = some (.ref f_l_fact)
  b_l_fact : Binds K d_l_fact ["_law_bag_here", "_law_amount"] []
  f_l_fact_place : Addr
  d_l_fact_place : FuncData
  F_l_fact_place : Fun K "_law_fact_place" "_law_fact_place" s_l_fact_place f_l_fact_place d_l_fact_place
  g_l_fact_place : mg "_law_fact_place" = some (.ref f_l_fact_place)
  b_l_fact_place : Binds K d_l_fact_place ["_law_fact_here"] []
  f_l_text : Addr
  d_l_text : FuncData
  F_l_text : Fun K "_law_text" "_law_text" s_l_text f_l_text d_l_text
  g_l_text : mg "_law_text" = some (.ref f_l_text)
  b_l_text : Binds K d_l_text ["_law_fact_here"] []
  f_l_number_read : Addr
  d_l_number_read : FuncData
  F_l_number_read : Fun K "_law_number_read" "_law_number_read" s_l_number_read f_l_number_read d_l_number_read
  g_l_number_read : mg "_law_number_read" = some (.ref f_l_number_read)
  b_l_number_read : Binds K d_l_number_read ["_law_word"] []
  f_l_fact_read : Addr
  d_l_fact_read : FuncData
  F_l_fact_read : Fun K "_law_fact_read" "_law_fact_read" s_l_fact_read f_l_fact_read d_l_fact_read
  g_l_fact_read : mg "_law_fact_read" = some (.ref f_l_fact_read)
  b_l_fact_read : Binds K d_l_fact_read ["_law_words"] []
  f_l_words_bent : Addr
  d_l_words_bent : FuncData
  F_l_words_bent : Fun K "_law_words_bent" "_law_words_bent" s_l_words_bent f_l_words_bent d_l_words_bent
  g_l_words_bent : mg "_law_words_bent" = some (.ref f_l_words_bent)
  b_l_words_bent : Binds K d_l_words_bent ["_law_bag_here", "_law_row"] []
  f_l_sign : Addr
  d_l_sign : FuncData
  F_l_sign : Fun K "_law_sign" "_law_sign" s_l_sign f_l_sign d_l_sign
  g_l_sign : mg "_law_sign" = some (.ref f_l_sign)
  b_l_sign : Binds K d_l_sign ["_law_bag_here"] []
structure Tx_1 (P : Program) (K : PySem.W.Frag) (mg : Str → Option Value) (w : World) extends Tx_0 P K mg w where
  f_l_text_bent : Addr
  d_l_text_bent : FuncData
  F_l_text_bent : Fun K "_law_text_bent" "_law_text_bent" s_l_text_bent f_l_text_bent d_l_text_bent
  g_l_text_bent : mg "_law_text_bent" = some (.ref f_l_text_bent)
  b_l_text_bent : Binds K d_l_text_bent ["_law_bag_here", "_law_text_here"] []
  f_l_told : Addr
  d_l_told : FuncData
  F_l_told : Fun K "_law_told" "_law_told" s_l_told f_l_told d_l_told
  g_l_told : mg "_law_told" = some (.ref f_l_told)
  b_l_told : Binds K d_l_told ["_law_text_here"] []
  f_l_wrong : Addr
  d_l_wrong : FuncData
  F_l_wrong : Fun K "_law_wrong" "_law_wrong" s_l_wrong f_l_wrong d_l_wrong
  g_l_wrong : mg "_law_wrong" = some (.ref f_l_wrong)
  b_l_wrong : Binds K d_l_wrong ["_law_text_here"] []
  z_len : mg "len" = none
  z_isinstance : mg "isinstance" = none
  z_tuple : mg "tuple" = none
  z_list : mg "list" = none
  z_bool : mg "bool" = none
  z_range : mg "range" = none
  z_int : mg "int" = none
  z_set : mg "set" = none
  z_sorted : mg "sorted" = none
  z_all : mg "all" = none
  z_enumerate : mg "enumerate" = none
  z_str : mg "str" = none
  z_min : mg "min" = none
  t_MOST_FACTS : Tok
  k_MOST_FACTS : mg "MOST_FACTS" = some (.int 120 t_MOST_FACTS)
  t_MOST_FIGURES : Tok
  k_MOST_FIGURES : mg "MOST_FIGURES" = some (.int 30 t_MOST_FIGURES)
  B_BOUNDS : Addr
  g_BOUNDS : mg "BOUNDS" = some (.ref B_BOUNDS)
  t_BOUNDS_gate : Addr
  kd_BOUNDS_gate : KDct K w B_BOUNDS "gate" (.ref t_BOUNDS_gate)
  kt_BOUNDS_gate : ∀ {H : Hp}, SqT K H t_BOUNDS_gate [.int 0, .int 7]
  t_BOUNDS_carriage : Addr
  kd_BOUNDS_carriage : KDct K w B_BOUNDS "carriage" (.ref t_BOUNDS_carriage)
  kt_BOUNDS_carriage : ∀ {H : Hp}, SqT K H t_BOUNDS_carriage [.int 0, .int 9]
  t_BOUNDS_trust : Addr
  kd_BOUNDS_trust : KDct K w B_BOUNDS "trust" (.ref t_BOUNDS_trust)
  kt_BOUNDS_trust : ∀ {H : Hp}, SqT K H t_BOUNDS_trust [.int 0, .int 3]
  t_BOUNDS_day : Addr
  kd_BOUNDS_day : KDct K w B_BOUNDS "day" (.ref t_BOUNDS_day)
  kt_BOUNDS_day : ∀ {H : Hp}, SqT K H t_BOUNDS_day [.int 0, .int 999]
  t_BOUNDS_minute : Addr
  kd_BOUNDS_minute : KDct K w B_BOUNDS "minute" (.ref t_BOUNDS_minute)
  kt_BOUNDS_minute : ∀ {H : Hp}, SqT K H t_BOUNDS_minute [.int 0, .int 1439]
  t_BOUNDS_toll : Addr
  kd_BOUNDS_toll : KDct K w B_BOUNDS "toll" (.ref t_BOUNDS_toll)
  kt_BOUNDS_toll : ∀ {H : Hp}, SqT K H t_BOUNDS_toll [.int 0, .int 48]
  t_BOUNDS_payment : Addr
  kd_BOUNDS_payment : KDct K w B_BOUNDS "payment" (.ref t_BOUNDS_payment)
  kt_BOUNDS_payment : ∀ {H : Hp}, SqT K H t_BOUNDS_payment [.int 0, .int 100000]
  t_BOUNDS_horses : Addr
  kd_BOUNDS_horses : KDct K w B_BOUNDS "horses" (.ref t_BOUNDS_horses)
  kt_BOUNDS_horses : ∀ {H : Hp}, SqT K H t_BOUNDS_horses [.int 1, .int 8]
  t_BOUNDS_number : Addr
  kd_BOUNDS_number : KDct K w B_BOUNDS "number" (.ref t_BOUNDS_number)
  kt_BOUNDS_number : ∀ {H : Hp}, SqT K H t_BOUNDS_number [.int 1, .non]
  B_SHAPES : Addr
  g_SHAPES : mg "SHAPES" = some (.ref B_SHAPES)
  t_SHAPES_toll : Addr
  kd_SHAPES_toll : KDct K w B_SHAPES "toll" (.ref t_SHAPES_toll)
  kt_SHAPES_toll : ∀ {H : Hp}, SqT K H t_SHAPES_toll [.str "gate", .str "day", .str "toll"]
  t_SHAPES_board : Addr
  kd_SHAPES_board : KDct K w B_SHAPES "board" (.ref t_SHAPES_board)
  kt_SHAPES_board : ∀ {H : Hp}, SqT K H t_SHAPES_board [.str "gate", .str "day", .str "gates"]
  t_SHAPES_trust : Addr
  kd_SHAPES_trust : KDct K w B_SHAPES "trust" (.ref t_SHAPES_trust)
  kt_SHAPES_trust : ∀ {H : Hp}, SqT K H t_SHAPES_trust [.str "gate", .str "day", .str "trust"]
  t_SHAPES_folk : Addr
  kd_SHAPES_folk : KDct K w B_SHAPES "folk" (.ref t_SHAPES_folk)
  kt_SHAPES_folk : ∀ {H : Hp}, SqT K H t_SHAPES_folk [.str "carriage", .str "day", .str "day"]
  t_SHAPES_bargain : Addr
  kd_SHAPES_bargain : KDct K w B_SHAPES "bargain" (.ref t_SHAPES_bargain)
  kt_SHAPES_bargain : ∀ {H : Hp}, SqT K H t_SHAPES_bargain [.str "gate", .str "carriage", .str "day", .str "day"]
  t_SHAPES_pass : Addr
  kd_SHAPES_pass : KDct K w B_SHAPES "pass" (.ref t_SHAPES_pass)
  kt_SHAPES_pass : ∀ {H : Hp}, SqT K H t_SHAPES_pass [.str "day", .str "minute", .str "gate", .str "carriage", .str "horses"]
  t_SHAPES_lost : Addr
  kd_SHAPES_lost : KDct K w B_SHAPES "lost" (.ref t_SHAPES_lost)
  kt_SHAPES_lost : ∀ {H : Hp}, SqT K H t_SHAPES_lost [.str "number", .str "minute"]
  t_SHAPES_paid : Addr
  kd_SHAPES_paid : KDct K w B_SHAPES "paid" (.ref t_SHAPES_paid)
  kt_SHAPES_paid : ∀ {H : Hp}, SqT K H t_SHAPES_paid [.str "carriage", .str "day", .str "payment"]
  dic_SHAPES : KDic K w B_SHAPES
  ms0_SHAPES : KMiss K w B_SHAPES ""
  ms1_SHAPES : KMiss K w B_SHAPES "Pass"
  ms2_SHAPES : KMiss K w B_SHAPES "tolls"
  ms3_SHAPES : KMiss K w B_SHAPES "gate"
  ms4_SHAPES : KMiss K w B_SHAPES "pass "
  ka_SHAPES : ∀ z : Str, z ∉ (["toll", "board", "trust", "folk", "bargain", "pass", "lost", "paid"] : List Str) → KMiss K w B_SHAPES z
  C_PikeError : Addr
  g_PikeError : mg "PikeError" = some (.ref C_PikeError)
  C_BadFact : Addr
  g_BadFact : mg "BadFact" = some (.ref C_BadFact)
  C_BadPage : Addr
  g_BadPage : mg "BadPage" = some (.ref C_BadPage)
  C_Full : Addr
  g_Full : mg "Full" = some (.ref C_Full)
  f_c_PikeError_init : Addr
  d_c_PikeError_init : FuncData
  cda_c_PikeError_init : Addr
  cc_c_PikeError_init : Addr
  FS_c_PikeError_init : FunS P K mg "__init__" "PikeError.__init__" s_c_PikeError_init f_c_PikeError_init d_c_PikeError_init cda_c_PikeError_init cc_c_PikeError_init C_PikeError
  b_c_PikeError_init : Binds K d_c_PikeError_init ["self", "reason"] []
  f_c_BadFact_init : Addr
  d_c_BadFact_init : FuncData
  cda_c_BadFact_init : Addr
  cc_c_BadFact_init : Addr
  FS_c_BadFact_init : FunS P K mg "__init__" "BadFact.__init__" s_c_BadFact_init f_c_BadFact_init d_c_BadFact_init cda_c_BadFact_init cc_c_BadFact_init C_BadFact
  b_c_BadFact_init : Binds K d_c_BadFact_init ["self", "place"] []
  f_c_BadPage_init : Addr
  d_c_BadPage_init : FuncData
  cda_c_BadPage_init : Addr
  cc_c_BadPage_init : Addr
  FS_c_BadPage_init : FunS P K mg "__init__" "BadPage.__init__" s_c_BadPage_init f_c_BadPage_init d_c_BadPage_init cda_c_BadPage_init cc_c_BadPage_init C_BadPage
  b_c_BadPage_init : Binds K d_c_BadPage_init ["self", "row"] []
  pk_BadFact : PkC K false C_PikeError C_BadFact "BadFact"
  in_BadFact : PySem.W.findIn K (.ref C_BadFact) "__init__" = some (some (.ref f_c_BadFact_init))
  sc_BadFact : SupC K C_BadFact C_BadFact
  so_BadFact : PySem.W.ks_superIn K C_BadFact C_BadFact "__init__" = some (some (.ref f_c_PikeError_init))
  no_BadFact : PySem.W.findIn K (.ref C_BadFact) "place" = some none
  e_BadFact : PySem.W.exmOne K (.ref C_BadFact) (.ref C_BadFact) = some true
  xf_BadFact : XfC K C_BadFact
  pk_BadPage : PkC K false C_PikeError C_BadPage "BadPage"
  in_BadPage : PySem.W.findIn K (.ref C_BadPage) "__init__" = some (some (.ref f_c_BadPage_init))
  sc_BadPage : SupC K C_BadPage C_BadPage
structure Tx (P : Program) (K : PySem.W.Frag) (mg : Str → Option Value) (w : World) extends Tx_1 P K mg w where
  so_BadPage : PySem.W.ks_superIn K C_BadPage C_BadPage "__init__" = some (some (.ref f_c_PikeError_init))
  no_BadPage : PySem.W.findIn K (.ref C_BadPage) "row" = some none
  e_BadPage : PySem.W.exmOne K (.ref C_BadPage) (.ref C_BadPage) = some true
  xf_BadPage : XfC K C_BadPage
  pk_Full : PkC K false C_PikeError C_Full "Full"
  in_Full : PySem.W.findIn K (.ref C_Full) "__init__" = some (some (.ref f_c_PikeError_init))
  e_Full : PySem.W.exmOne K (.ref C_Full) (.ref C_Full) = some true
  xf_Full : XfC K C_Full
  e_BadFact_Full : PySem.W.exmOne K (.ref C_BadFact) (.ref C_Full) = some false
  e_Full_BadFact : PySem.W.exmOne K (.ref C_Full) (.ref C_BadFact) = some false
  C_Roll : Addr
  g_Roll : mg "Roll" = some (.ref C_Roll)
  cls_Roll : Cls K C_Roll
  f_c_Roll_init : Addr
  d_c_Roll_init : FuncData
  F_c_Roll_init : Fun K "__init__" "Roll.__init__" s_c_Roll_init f_c_Roll_init d_c_Roll_init
  b_c_Roll_init : Binds K d_c_Roll_init ["self"] []
  at_c_Roll_init : PySem.W.findIn K (.ref C_Roll) "__init__" = some (some (.ref f_c_Roll_init))
  fn_c_Roll_init : PySem.W.isFn K (.ref f_c_Roll_init) = true
  mk_Roll : Mk K C_Roll f_c_Roll_init
  f_c_Roll_enter : Addr
  d_c_Roll_enter : FuncData
  F_c_Roll_enter : Fun K "enter" "Roll.enter" s_c_Roll_enter f_c_Roll_enter d_c_Roll_enter
  b_c_Roll_enter : Binds K d_c_Roll_enter ["self", "state"] []
  at_c_Roll_enter : PySem.W.findIn K (.ref C_Roll) "enter" = some (some (.ref f_c_Roll_enter))
  fn_c_Roll_enter : PySem.W.isFn K (.ref f_c_Roll_enter) = true
  f_c_Roll_tell : Addr
  d_c_Roll_tell : FuncData
  F_c_Roll_tell : Fun K "tell" "Roll.tell" s_c_Roll_tell f_c_Roll_tell d_c_Roll_tell
  b_c_Roll_tell : Binds K d_c_Roll_tell ["self", "fact"] []
  at_c_Roll_tell : PySem.W.findIn K (.ref C_Roll) "tell" = some (some (.ref f_c_Roll_tell))
  fn_c_Roll_tell : PySem.W.isFn K (.ref f_c_Roll_tell) = true
  f_c_Roll_facts : Addr
  d_c_Roll_facts : FuncData
  F_c_Roll_facts : Fun K "facts" "Roll.facts" s_c_Roll_facts f_c_Roll_facts d_c_Roll_facts
  b_c_Roll_facts : Binds K d_c_Roll_facts ["self"] []
  at_c_Roll_facts : PySem.W.findIn K (.ref C_Roll) "facts" = some (some (.ref f_c_Roll_facts))
  fn_c_Roll_facts : PySem.W.isFn K (.ref f_c_Roll_facts) = true
  na_Roll_states : NoAttr K C_Roll "states"
  na_Roll_undone : NoAttr K C_Roll "undone"
  ty_Roll : ∀ {H : Hp} {a dx : Addr} {fs : List (Str × V)}, H a = some (.ins C_Roll dx fs) → TyX K H (.ref a) (.ref C_Roll)
  ko_Roll : PySem.W.kitOne K (.ref C_Roll) (.ref C_Roll) = some true
  nf_Roll : PySem.W.notFirst K C_Roll (.ref C_Roll) = true
  sk_Roll_int : PySem.W.subIn K (.ref C_Roll) (.type "int") = some false
def TFun (P : Program) (K : PySem.W.Frag) (mg : Str → Option Value) (w : World) (fa : Addr) : Prop := ∃ (_ : Tx P K mg w) (fd : FuncData), (∀ (s : Shared) (v : Value), BindsTo s fd ⟨[v], []⟩ [("_law_script", v)]) ∧ Fun K "law" "law" s_law fa fd
theorem all_mk {l : PySem.W.OpenLaw} {w : World} {K : PySem.W.Frag} {h : Heap} {mg : Str → Option Value} {fa f0 f1 f2 f3 f4 f5 f6 f7 f8 f9 f10 f11 f12 f13 f14 f15 f16 f17 f18 f19 f20 f21 f22 f23 f24 f25 f26 f27 f28 fL : Addr} (X : K.In h) (G : h.Ns mainGlobals mg) (hfa : mg "law" = some (.ref fa))
    {od0 an0 od1 an1 od2 an2 od3 an3 od4 an4 od5 an5 od6 an6 od7 an7 od8 an8 od9 an9 od10 an10 od11 an11 od12 an12 od13 an13 od14 an14 od15 an15 od16 an16 od17 an17 od18 an18 od19 an19 od20 an20 od21 an21 od22 an22 od23 an23 od24 an24 od25 an25 od26 an26 od27 an27 od28 an28 odL anL : Option Addr} {sl0 sl1 sl2 sl3 sl4 sl5 sl6 sl7 sl8 sl9 sl10 sl11 sl12 sl13 sl14 sl15 sl16 sl17 sl18 sl19 sl20 sl21 sl22 sl23 sl24 sl25 sl26 sl27 sl28 slL : Array (Option Value)} {oc0 kV0 dc0 pm0 cd0 ct0 oc1 kV1 dc1 pm1 cd1 ct1 oc2 kV2 dc2 pm2 cd2 ct2 oc3 kV3 dc3 pm3 cd3 ct3 oc4 kV4 dc4 pm4 cd4 ct4 oc5 kV5 dc5 pm5 cd5 ct5 oc6 kV6 dc6 pm6 cd6 ct6 oc7 kV7 dc7 pm7 cd7 ct7 oc8 kV8 dc8 pm8 cd8 ct8 oc9 kV9 dc9 pm9 cd9 ct9 oc10 kV10 dc10 pm10 cd10 ct10 oc11 kV11 dc11 pm11 cd11 ct11 oc12 kV12 dc12 pm12 cd12 ct12 oc13 kV13 dc13 pm13 cd13 ct13 oc14 kV14 dc14 pm14 cd14 ct14 oc15 kV15 dc15 pm15 cd15 ct15 oc16 kV16 dc16 pm16 cd16 ct16 oc17 kV17 dc17 pm17 cd17 ct17 oc18 kV18 dc18 pm18 cd18 ct18 oc19 kV19 dc19 pm19 cd19 ct19 oc20 kV20 dc20 pm20 cd20 ct20 oc21 kV21 dc21 pm21 cd21 ct21 oc22 kV22 dc22 pm22 cd22 ct22 oc23 kV23 dc23 pm23 cd23 ct23 oc24 kV24 dc24 pm24 cd24 ct24 oc25 kV25 dc25 pm25 cd25 ct25 oc26 kV26 dc26 pm26 cd26 ct26 oc27 kV27 dc27 pm27 cd27 ct27 oc28 kV28 dc28 pm28 cd28 ct28 ocL kVL dcL pmL cdL ctL : Value} {t_MOST_FACTS t_MOST_FIGURES : Tok}
    {C_Roll : Addr}
    {f_c_Roll_init : Addr} {od_c_Roll_init an_c_Roll_init : Option Addr} {sl_c_Roll_init : Array (Option Value)} {oc_c_Roll_init kV_c_Roll_init dc_c_Roll_init pm_c_Roll_init cd_c_Roll_init ct_c_Roll_init : Value}
    {f_c_Roll_enter : Addr} {od_c_Roll_enter an_c_Roll_enter : Option Addr} {sl_c_Roll_enter : Array (Option Value)} {oc_c_Roll_enter kV_c_Roll_enter dc_c_Roll_enter pm_c_Roll_enter cd_c_Roll_enter ct_c_Roll_enter : Value}
    {f_c_Roll_tell : Addr} {od_c_Roll_tell an_c_Roll_tell : Option Addr} {sl_c_Roll_tell : Array (Option Value)} {oc_c_Roll_tell kV_c_Roll_tell dc_c_Roll_tell pm_c_Roll_tell cd_c_Roll_tell ct_c_Roll_tell : Value}
    {f_c_Roll_facts : Addr} {od_c_Roll_facts an_c_Roll_facts : Option Addr} {sl_c_Roll_facts : Array (Option Value)} {oc_c_Roll_facts kV_c_Roll_facts dc_c_Roll_facts pm_c_Roll_facts cd_c_Roll_facts ct_c_Roll_facts : Value}
    (a0 : PySem.W.nsIn K mainGlobals "is_number" = some (some (.ref f0)))
    (l0 : K.lookup f0 = some ⟨oc0, od0, .func (PySem.W.fnOf "is_number" "is_number" (defArgs s_p_is_number) (defBody s_p_is_number) (defScope s_p_is_number) .none kV0 dc0 pm0 an0 cd0 ct0), sl0⟩)
    (c0 : PySem.W.codeIn K cd0 "is_number" = true) (k0 : PySem.W.keepIn K (.ref f0) = true)
    (a1 : PySem.W.nsIn K mainGlobals "is_good" = some (some (.ref f1)))
    (l1 : K.lookup f1 = some ⟨oc1, od1, .func (PySem.W.fnOf "is_good" "is_good" (defArgs s_p_is_good) (defBody s_p_is_good) (defScope s_p_is_good) .none kV1 dc1 pm1 an1 cd1 ct1), sl1⟩)
    (c1 : PySem.W.codeIn K cd1 "is_good" = true) (k1 : PySem.W.keepIn K (.ref f1) = true)
    (a2 : PySem.W.nsIn K mainGlobals "are_rising" = some (some (.ref f2)))
    (l2 : K.lookup f2 = some ⟨oc2, od2, .func (PySem.W.fnOf "are_rising" "are_rising" (defArgs s_p_are_rising) (defBody s_p_are_rising) (defScope s_p_are_rising) .none kV2 dc2 pm2 an2 cd2 ct2), sl2⟩)
    (c2 : PySem.W.codeIn K cd2 "are_rising" = true) (k2 : PySem.W.keepIn K (.ref f2) = true)
    (a3 : PySem.W.nsIn K mainGlobals "need_fact" = some (some (.ref f3)))
    (l3 : K.lookup f3 = some ⟨oc3, od3, .func (PySem.W.fnOf "need_fact" "need_fact" (defArgs s_p_need_fact) (defBody s_p_need_fact) (defScope s_p_need_fact) .none kV3 dc3 pm3 an3 cd3 ct3), sl3⟩)
    (c3 : PySem.W.codeIn K cd3 "need_fact" = true) (k3 : PySem.W.keepIn K (.ref f3) = true)
    (a4 : PySem.W.nsIn K mainGlobals "fact_text" = some (some (.ref f4)))
    (l4 : K.lookup f4 = some ⟨oc4, od4, .func (PySem.W.fnOf "fact_text" "fact_text" (defArgs s_p_fact_text) (defBody s_p_fact_text) (defScope s_p_fact_text) .none kV4 dc4 pm4 an4 cd4 ct4), sl4⟩)
    (c4 : PySem.W.codeIn K cd4 "fact_text" = true) (k4 : PySem.W.keepIn K (.ref f4) = true)
    (a5 : PySem.W.nsIn K mainGlobals "page_of" = some (some (.ref f5)))
    (l5 : K.lookup f5 = some ⟨oc5, od5, .func (PySem.W.fnOf "page_of" "page_of" (defArgs s_p_page_of) (defBody s_p_page_of) (defScope s_p_page_of) .none kV5 dc5 pm5 an5 cd5 ct5), sl5⟩)
    (c5 : PySem.W.codeIn K cd5 "page_of" = true) (k5 : PySem.W.keepIn K (.ref f5) = true)
    (a6 : PySem.W.nsIn K mainGlobals "is_number_text" = some (some (.ref f6)))
    (l6 : K.lookup f6 = some ⟨oc6, od6, .func (PySem.W.fnOf "is_number_text" "is_number_text" (defArgs s_p_is_number_text) (defBody s_p_is_number_text) (defScope s_p_is_number_text) .none kV6 dc6 pm6 an6 cd6 ct6), sl6⟩)
    (c6 : PySem.W.codeIn K cd6 "is_number_text" = true) (k6 : PySem.W.keepIn K (.ref f6) = true)
    (a7 : PySem.W.nsIn K mainGlobals "read_numbers" = some (some (.ref f7)))
    (l7 : K.lookup f7 = some ⟨oc7, od7, .func (PySem.W.fnOf "read_numbers" "read_numbers" (defArgs s_p_read_numbers) (defBody s_p_read_numbers) (defScope s_p_read_numbers) .none kV7 dc7 pm7 an7 cd7 ct7), sl7⟩)
    (c7 : PySem.W.codeIn K cd7 "read_numbers" = true) (k7 : PySem.W.keepIn K (.ref f7) = true)
    (a8 : PySem.W.nsIn K mainGlobals "read_fact" = some (some (.ref f8)))
    (l8 : K.lookup f8 = some ⟨oc8, od8, .func (PySem.W.fnOf "read_fact" "read_fact" (defArgs s_p_read_fact) (defBody s_p_read_fact) (defScope s_p_read_fact) .none kV8 dc8 pm8 an8 cd8 ct8), sl8⟩)
    (c8 : PySem.W.codeIn K cd8 "read_fact" = true) (k8 : PySem.W.keepIn K (.ref f8) = true)
    (a9 : PySem.W.nsIn K mainGlobals "tell_row" = some (some (.ref f9)))
    (l9 : K.lookup f9 = some ⟨oc9, od9, .func (PySem.W.fnOf "tell_row" "tell_row" (defArgs s_p_tell_row) (defBody s_p_tell_row) (defScope s_p_tell_row) .none kV9 dc9 pm9 an9 cd9 ct9), sl9⟩)
    (c9 : PySem.W.codeIn K cd9 "tell_row" = true) (k9 : PySem.W.keepIn K (.ref f9) = true)
    (a10 : PySem.W.nsIn K mainGlobals "read_page" = some (some (.ref f10)))
    (l10 : K.lookup f10 = some ⟨oc10, od10, .func (PySem.W.fnOf "read_page" "read_page" (defArgs s_p_read_page) (defBody s_p_read_page) (defScope s_p_read_page) .none kV10 dc10 pm10 an10 cd10 ct10), sl10⟩)
    (c10 : PySem.W.codeIn K cd10 "read_page" = true) (k10 : PySem.W.keepIn K (.ref f10) = true)
    (a11 : PySem.W.nsIn K mainGlobals "_law_bag" = some (some (.ref f11)))
    (l11 : K.lookup f11 = some ⟨oc11, od11, .func (PySem.W.fnOf "_law_bag" "_law_bag" (defArgs s_l_bag) (defBody s_l_bag) (defScope s_l_bag) .none kV11 dc11 pm11 an11 cd11 ct11), sl11⟩)
    (c11 : PySem.W.codeIn K cd11 "_law_bag" = true) (k11 : PySem.W.keepIn K (.ref f11) = true)
    (a12 : PySem.W.nsIn K mainGlobals "_law_pull" = some (some (.ref f12)))
    (l12 : K.lookup f12 = some ⟨oc12, od12, .func (PySem.W.fnOf "_law_pull" "_law_pull" (defArgs s_l_pull) (defBody s_l_pull) (defScope s_l_pull) .none kV12 dc12 pm12 an12 cd12 ct12), sl12⟩)
    (c12 : PySem.W.codeIn K cd12 "_law_pull" = true) (k12 : PySem.W.keepIn K (.ref f12) = true)
    (a13 : PySem.W.nsIn K mainGlobals "_law_like" = some (some (.ref f13)))
    (l13 : K.lookup f13 = some ⟨oc13, od13, .func (PySem.W.fnOf "_law_like" "_law_like" (defArgs s_l_like) (defBody s_l_like) (defScope s_l_like) .none kV13 dc13 pm13 an13 cd13 ct13), sl13⟩)
    (c13 : PySem.W.codeIn K cd13 "_law_like" = true) (k13 : PySem.W.keepIn K (.ref f13) = true)
    (a14 : PySem.W.nsIn K mainGlobals "_law_gate" = some (some (.ref f14)))
    (l14 : K.lookup f14 = some ⟨oc14, od14, .func (PySem.W.fnOf "_law_gate" "_law_gate" (defArgs s_l_gate) (defBody s_l_gate) (defScope s_l_gate) .none kV14 dc14 pm14 an14 cd14 ct14), sl14⟩)
    (c14 : PySem.W.codeIn K cd14 "_law_gate" = true) (k14 : PySem.W.keepIn K (.ref f14) = true)
    (a15 : PySem.W.nsIn K mainGlobals "_law_day" = some (some (.ref f15)))
    (l15 : K.lookup f15 = some ⟨oc15, od15, .func (PySem.W.fnOf "_law_day" "_law_day" (defArgs s_l_day) (defBody s_l_day) (defScope s_l_day) .none kV15 dc15 pm15 an15 cd15 ct15), sl15⟩)
    (c15 : PySem.W.codeIn K cd15 "_law_day" = true) (k15 : PySem.W.keepIn K (.ref f15) = true)
    (a16 : PySem.W.nsIn K mainGlobals "_law_board" = some (some (.ref f16)))
    (l16 : K.lookup f16 = some ⟨oc16, od16, .func (PySem.W.fnOf "_law_board" "_law_board" (defArgs s_l_board) (defBody s_l_board) (defScope s_l_board) .none kV16 dc16 pm16 an16 cd16 ct16), sl16⟩)
    (c16 : PySem.W.codeIn K cd16 "_law_board" = true) (k16 : PySem.W.keepIn K (.ref f16) = true)
    (a17 : PySem.W.nsIn K mainGlobals "_law_passing" = some (some (.ref f17)))
    (l17 : K.lookup f17 = some ⟨oc17, od17, .func (PySem.W.fnOf "_law_passing" "_law_passing" (defArgs s_l_passing) (defBody s_l_passing) (defScope s_l_passing) .none kV17 dc17 pm17 an17 cd17 ct17), sl17⟩)
    (c17 : PySem.W.codeIn K cd17 "_law_passing" = true) (k17 : PySem.W.keepIn K (.ref f17) = true)
    (a18 : PySem.W.nsIn K mainGlobals "_law_stretch" = some (some (.ref f18)))
    (l18 : K.lookup f18 = some ⟨oc18, od18, .func (PySem.W.fnOf "_law_stretch" "_law_stretch" (defArgs s_l_stretch) (defBody s_l_stretch) (defScope s_l_stretch) .none kV18 dc18 pm18 an18 cd18 ct18), sl18⟩)
    (c18 : PySem.W.codeIn K cd18 "_law_stretch" = true) (k18 : PySem.W.keepIn K (.ref f18) = true)
    (a19 : PySem.W.nsIn K mainGlobals "_law_fact" = some (some (.ref f19)))
    (l19 : K.lookup f19 = some ⟨oc19, od19, .func (PySem.W.fnOf "_law_fact" "_law_fact" (defArgs s_l_fact) (defBody s_l_fact) (defScope s_l_fact) .none kV19 dc19 pm19 an19 cd19 ct19), sl19⟩)
    (c19 : PySem.W.codeIn K cd19 "_law_fact" = true) (k19 : PySem.W.keepIn K (.ref f19) = true)
    (a20 : PySem.W.nsIn K mainGlobals "_law_fact_place" = some (some (.ref f20)))
    (l20 : K.lookup f20 = some ⟨oc20, od20, .func (PySem.W.fnOf "_law_fact_place" "_law_fact_place" (defArgs s_l_fact_place) (defBody s_l_fact_place) (defScope s_l_fact_place) .none kV20 dc20 pm20 an20 cd20 ct20), sl20⟩)
    (c20 : PySem.W.codeIn K cd20 "_law_fact_place" = true) (k20 : PySem.W.keepIn K (.ref f20) = true)
    (a21 : PySem.W.nsIn K mainGlobals "_law_text" = some (some (.ref f21)))
    (l21 : K.lookup f21 = some ⟨oc21, od21, .func (PySem.W.fnOf "_law_text" "_law_text" (defArgs s_l_text) (defBody s_l_text) (defScope s_l_text) .none kV21 dc21 pm21 an21 cd21 ct21), sl21⟩)
    (c21 : PySem.W.codeIn K cd21 "_law_text" = true) (k21 : PySem.W.keepIn K (.ref f21) = true)
    (a22 : PySem.W.nsIn K mainGlobals "_law_number_read" = some (some (.ref f22)))
    (l22 : K.lookup f22 = some ⟨oc22, od22, .func (PySem.W.fnOf "_law_number_read" "_law_number_read" (defArgs s_l_number_read) (defBody s_l_number_read) (defScope s_l_number_read) .none kV22 dc22 pm22 an22 cd22 ct22), sl22⟩)
    (c22 : PySem.W.codeIn K cd22 "_law_number_read" = true) (k22 : PySem.W.keepIn K (.ref f22) = true)
    (a23 : PySem.W.nsIn K mainGlobals "_law_fact_read" = some (some (.ref f23)))
    (l23 : K.lookup f23 = some ⟨oc23, od23, .func (PySem.W.fnOf "_law_fact_read" "_law_fact_read" (defArgs s_l_fact_read) (defBody s_l_fact_read) (defScope s_l_fact_read) .none kV23 dc23 pm23 an23 cd23 ct23), sl23⟩)
    (c23 : PySem.W.codeIn K cd23 "_law_fact_read" = true) (k23 : PySem.W.keepIn K (.ref f23) = true)
    (a24 : PySem.W.nsIn K mainGlobals "_law_words_bent" = some (some (.ref f24)))
    (l24 : K.lookup f24 = some ⟨oc24, od24, .func (PySem.W.fnOf "_law_words_bent" "_law_words_bent" (defArgs s_l_words_bent) (defBody s_l_words_bent) (defScope s_l_words_bent) .none kV24 dc24 pm24 an24 cd24 ct24), sl24⟩)
    (c24 : PySem.W.codeIn K cd24 "_law_words_bent" = true) (k24 : PySem.W.keepIn K (.ref f24) = true)
    (a25 : PySem.W.nsIn K mainGlobals "_law_sign" = some (some (.ref f25)))
    (l25 : K.lookup f25 = some ⟨oc25, od25, .func (PySem.W.fnOf "_law_sign" "_law_sign" (defArgs s_l_sign) (defBody s_l_sign) (defScope s_l_sign) .none kV25 dc25 pm25 an25 cd25 ct25), sl25⟩)
    (c25 : PySem.W.codeIn K cd25 "_law_sign" = true) (k25 : PySem.W.keepIn K (.ref f25) = true)
    (a26 : PySem.W.nsIn K mainGlobals "_law_text_bent" = some (some (.ref f26)))
    (l26 : K.lookup f26 = some ⟨oc26, od26, .func (PySem.W.fnOf "_law_text_bent" "_law_text_bent" (defArgs s_l_text_bent) (defBody s_l_text_bent) (defScope s_l_text_bent) .none kV26 dc26 pm26 an26 cd26 ct26), sl26⟩)
    (c26 : PySem.W.codeIn K cd26 "_law_text_bent" = true) (k26 : PySem.W.keepIn K (.ref f26) = true)
    (a27 : PySem.W.nsIn K mainGlobals "_law_told" = some (some (.ref f27)))
    (l27 : K.lookup f27 = some ⟨oc27, od27, .func (PySem.W.fnOf "_law_told" "_law_told" (defArgs s_l_told) (defBody s_l_told) (defScope s_l_told) .none kV27 dc27 pm27 an27 cd27 ct27), sl27⟩)
    (c27 : PySem.W.codeIn K cd27 "_law_told" = true) (k27 : PySem.W.keepIn K (.ref f27) = true)
    (a28 : PySem.W.nsIn K mainGlobals "_law_wrong" = some (some (.ref f28)))
    (l28 : K.lookup f28 = some ⟨oc28, od28, .func (PySem.W.fnOf "_law_wrong" "_law_wrong" (defArgs s_l_wrong) (defBody s_l_wrong) (defScope s_l_wrong) .none kV28 dc28 pm28 an28 cd28 ct28), sl28⟩)
    (c28 : PySem.W.codeIn K cd28 "_law_wrong" = true) (k28 : PySem.W.keepIn K (.ref f28) = true)
    (aL : PySem.W.nsIn K mainGlobals "law" = some (some (.ref fL)))
    (lL : K.lookup fL = some ⟨ocL, odL, .func (PySem.W.fnOf "law" "law" (defArgs s_law) (defBody s_law) (defScope s_law) .none kVL dcL pmL anL cdL ctL), slL⟩)
    (cL : PySem.W.codeIn K cdL "law" = true) (kL : PySem.W.keepIn K (.ref fL) = true)
    (z_len : PySem.W.nsIn K mainGlobals "len" = some none)
    (z_isinstance : PySem.W.nsIn K mainGlobals "isinstance" = some none)
    (z_tuple : PySem.W.nsIn K mainGlobals "tuple" = some none)
    (z_list : PySem.W.nsIn K mainGlobals "list" = some none)
    (z_bool : PySem.W.nsIn K mainGlobals "bool" = some none)
    (z_range : PySem.W.nsIn K mainGlobals "range" = some none)
    (z_int : PySem.W.nsIn K mainGlobals "int" = some none)
    (z_set : PySem.W.nsIn K mainGlobals "set" = some none)
    (z_sorted : PySem.W.nsIn K mainGlobals "sorted" = some none)
    (z_all : PySem.W.nsIn K mainGlobals "all" = some none)
    (z_enumerate : PySem.W.nsIn K mainGlobals "enumerate" = some none)
    (z_str : PySem.W.nsIn K mainGlobals "str" = some none)
    (z_min : PySem.W.nsIn K mainGlobals "min" = some none)
    (k_MOST_FACTS : PySem.W.nsIn K mainGlobals "MOST_FACTS" = some (some (.int 120 t_MOST_FACTS)))
    (k_MOST_FIGURES : PySem.W.nsIn K mainGlobals "MOST_FIGURES" = some (some (.int 30 t_MOST_FIGURES)))
    {B_BOUNDS : Addr} {es_BOUNDS : Array DictEntry} {en_BOUNDS : Nat} {tk0_BOUNDS_gate tk1_BOUNDS_gate tk0_BOUNDS_carriage tk1_BOUNDS_carriage tk0_BOUNDS_trust tk1_BOUNDS_trust tk0_BOUNDS_day tk1_BOUNDS_day tk0_BOUNDS_minute tk1_BOUNDS_minute tk0_BOUNDS_toll tk1_BOUNDS_toll tk0_BOUNDS_payment tk1_BOUNDS_payment tk0_BOUNDS_horses tk1_BOUNDS_horses tk0_BOUNDS_number : Tok}
    {t_BOUNDS_gate : Addr} {to_BOUNDS_gate : Option Addr} {tn_BOUNDS_gate : Nat} {ts_BOUNDS_gate : Array (Option Value)}
    {t_BOUNDS_carriage : Addr} {to_BOUNDS_carriage : Option Addr} {tn_BOUNDS_carriage : Nat} {ts_BOUNDS_carriage : Array (Option Value)}
    {t_BOUNDS_trust : Addr} {to_BOUNDS_trust : Option Addr} {tn_BOUNDS_trust : Nat} {ts_BOUNDS_trust : Array (Option Value)}
    {t_BOUNDS_day : Addr} {to_BOUNDS_day : Option Addr} {tn_BOUNDS_day : Nat} {ts_BOUNDS_day : Array (Option Value)}
    {t_BOUNDS_minute : Addr} {to_BOUNDS_minute : Option Addr} {tn_BOUNDS_minute : Nat} {ts_BOUNDS_minute : Array (Option Value)}
    {t_BOUNDS_toll : Addr} {to_BOUNDS_toll : Option Addr} {tn_BOUNDS_toll : Nat} {ts_BOUNDS_toll : Array (Option Value)}
    {t_BOUNDS_payment : Addr} {to_BOUNDS_payment : Option Addr} {tn_BOUNDS_payment : Nat} {ts_BOUNDS_payment : Array (Option Value)}
    {t_BOUNDS_horses : Addr} {to_BOUNDS_horses : Option Addr} {tn_BOUNDS_horses : Nat} {ts_BOUNDS_horses : Array (Option Value)}
    {t_BOUNDS_number : Addr} {to_BOUNDS_number : Option Addr} {tn_BOUNDS_number : Nat} {ts_BOUNDS_number : Array (Option Value)}
    (a_BOUNDS : PySem.W.nsIn K mainGlobals "BOUNDS" = some (some (.ref B_BOUNDS)))
    (ld_BOUNDS : K.lookup B_BOUNDS = some ⟨.type "dict", none, .dict es_BOUNDS en_BOUNDS, #[]⟩)
    (kl_BOUNDS : PySem.W.KeysLit w.params es_BOUNDS.toList)
    (ek_BOUNDS_gate : PySem.W.nsIn K B_BOUNDS "gate" = some (some (.ref t_BOUNDS_gate)))
    (lt_BOUNDS_gate : K.lookup t_BOUNDS_gate = some ⟨.type "tuple", to_BOUNDS_gate, .seq #[.int 0 tk0_BOUNDS_gate, .int 7 tk1_BOUNDS_gate] tn_BOUNDS_gate, ts_BOUNDS_gate⟩)
    (ek_BOUNDS_carriage : PySem.W.nsIn K B_BOUNDS "carriage" = some (some (.ref t_BOUNDS_carriage)))
    (lt_BOUNDS_carriage : K.lookup t_BOUNDS_carriage = some ⟨.type "tuple", to_BOUNDS_carriage, .seq #[.int 0 tk0_BOUNDS_carriage, .int 9 tk1_BOUNDS_carriage] tn_BOUNDS_carriage, ts_BOUNDS_carriage⟩)
    (ek_BOUNDS_trust : PySem.W.nsIn K B_BOUNDS "trust" = some (some (.ref t_BOUNDS_trust)))
    (lt_BOUNDS_trust : K.lookup t_BOUNDS_trust = some ⟨.type "tuple", to_BOUNDS_trust, .seq #[.int 0 tk0_BOUNDS_trust, .int 3 tk1_BOUNDS_trust] tn_BOUNDS_trust, ts_BOUNDS_trust⟩)
    (ek_BOUNDS_day : PySem.W.nsIn K B_BOUNDS "day" = some (some (.ref t_BOUNDS_day)))
    (lt_BOUNDS_day : K.lookup t_BOUNDS_day = some ⟨.type "tuple", to_BOUNDS_day, .seq #[.int 0 tk0_BOUNDS_day, .int 999 tk1_BOUNDS_day] tn_BOUNDS_day, ts_BOUNDS_day⟩)
    (ek_BOUNDS_minute : PySem.W.nsIn K B_BOUNDS "minute" = some (some (.ref t_BOUNDS_minute)))
    (lt_BOUNDS_minute : K.lookup t_BOUNDS_minute = some ⟨.type "tuple", to_BOUNDS_minute, .seq #[.int 0 tk0_BOUNDS_minute, .int 1439 tk1_BOUNDS_minute] tn_BOUNDS_minute, ts_BOUNDS_minute⟩)
    (ek_BOUNDS_toll : PySem.W.nsIn K B_BOUNDS "toll" = some (some (.ref t_BOUNDS_toll)))
    (lt_BOUNDS_toll : K.lookup t_BOUNDS_toll = some ⟨.type "tuple", to_BOUNDS_toll, .seq #[.int 0 tk0_BOUNDS_toll, .int 48 tk1_BOUNDS_toll] tn_BOUNDS_toll, ts_BOUNDS_toll⟩)
    (ek_BOUNDS_payment : PySem.W.nsIn K B_BOUNDS "payment" = some (some (.ref t_BOUNDS_payment)))
    (lt_BOUNDS_payment : K.lookup t_BOUNDS_payment = some ⟨.type "tuple", to_BOUNDS_payment, .seq #[.int 0 tk0_BOUNDS_payment, .int 100000 tk1_BOUNDS_payment] tn_BOUNDS_payment, ts_BOUNDS_payment⟩)
    (ek_BOUNDS_horses : PySem.W.nsIn K B_BOUNDS "horses" = some (some (.ref t_BOUNDS_horses)))
    (lt_BOUNDS_horses : K.lookup t_BOUNDS_horses = some ⟨.type "tuple", to_BOUNDS_horses, .seq #[.int 1 tk0_BOUNDS_horses, .int 8 tk1_BOUNDS_horses] tn_BOUNDS_horses, ts_BOUNDS_horses⟩)
    (ek_BOUNDS_number : PySem.W.nsIn K B_BOUNDS "number" = some (some (.ref t_BOUNDS_number)))
    (lt_BOUNDS_number : K.lookup t_BOUNDS_number = some ⟨.type "tuple", to_BOUNDS_number, .seq #[.int 1 tk0_BOUNDS_number, .none] tn_BOUNDS_number, ts_BOUNDS_number⟩)
    {B_SHAPES : Addr} {es_SHAPES : Array DictEntry} {en_SHAPES : Nat} {tk0_SHAPES_toll tk1_SHAPES_toll tk2_SHAPES_toll tk0_SHAPES_board tk1_SHAPES_board tk2_SHAPES_board tk0_SHAPES_trust tk1_SHAPES_trust tk2_SHAPES_trust tk0_SHAPES_folk tk1_SHAPES_folk tk2_SHAPES_folk tk0_SHAPES_bargain tk1_SHAPES_bargain tk2_SHAPES_bargain tk3_SHAPES_bargain tk0_SHAPES_pass tk1_SHAPES_pass tk2_SHAPES_pass tk3_SHAPES_pass tk4_SHAPES_pass tk0_SHAPES_lost tk1_SHAPES_lost tk0_SHAPES_paid tk1_SHAPES_paid tk2_SHAPES_paid : Tok}
    {t_SHAPES_toll : Addr} {to_SHAPES_toll : Option Addr} {tn_SHAPES_toll : Nat} {ts_SHAPES_toll : Array (Option Value)}
    {t_SHAPES_board : Addr} {to_SHAPES_board : Option Addr} {tn_SHAPES_board : Nat} {ts_SHAPES_board : Array (Option Value)}
    {t_SHAPES_trust : Addr} {to_SHAPES_trust : Option Addr} {tn_SHAPES_trust : Nat} {ts_SHAPES_trust : Array (Option Value)}
    {t_SHAPES_folk : Addr} {to_SHAPES_folk : Option Addr} {tn_SHAPES_folk : Nat} {ts_SHAPES_folk : Array (Option Value)}
    {t_SHAPES_bargain : Addr} {to_SHAPES_bargain : Option Addr} {tn_SHAPES_bargain : Nat} {ts_SHAPES_bargain : Array (Option Value)}
    {t_SHAPES_pass : Addr} {to_SHAPES_pass : Option Addr} {tn_SHAPES_pass : Nat} {ts_SHAPES_pass : Array (Option Value)}
    {t_SHAPES_lost : Addr} {to_SHAPES_lost : Option Addr} {tn_SHAPES_lost : Nat} {ts_SHAPES_lost : Array (Option Value)}
    {t_SHAPES_paid : Addr} {to_SHAPES_paid : Option Addr} {tn_SHAPES_paid : Nat} {ts_SHAPES_paid : Array (Option Value)}
    (a_SHAPES : PySem.W.nsIn K mainGlobals "SHAPES" = some (some (.ref B_SHAPES)))
    (ld_SHAPES : K.lookup B_SHAPES = some ⟨.type "dict", none, .dict es_SHAPES en_SHAPES, #[]⟩)
    (kl_SHAPES : PySem.W.KeysLit w.params es_SHAPES.toList)
    (ek_SHAPES_toll : PySem.W.nsIn K B_SHAPES "toll" = some (some (.ref t_SHAPES_toll)))
    (lt_SHAPES_toll : K.lookup t_SHAPES_toll = some ⟨.type "tuple", to_SHAPES_toll, .seq #[.str "gate" tk0_SHAPES_toll, .str "day" tk1_SHAPES_toll, .str "toll" tk2_SHAPES_toll] tn_SHAPES_toll, ts_SHAPES_toll⟩)
    (ek_SHAPES_board : PySem.W.nsIn K B_SHAPES "board" = some (some (.ref t_SHAPES_board)))
    (lt_SHAPES_board : K.lookup t_SHAPES_board = some ⟨.type "tuple", to_SHAPES_board, .seq #[.str "gate" tk0_SHAPES_board, .str "day" tk1_SHAPES_board, .str "gates" tk2_SHAPES_board] tn_SHAPES_board, ts_SHAPES_board⟩)
    (ek_SHAPES_trust : PySem.W.nsIn K B_SHAPES "trust" = some (some (.ref t_SHAPES_trust)))
    (lt_SHAPES_trust : K.lookup t_SHAPES_trust = some ⟨.type "tuple", to_SHAPES_trust, .seq #[.str "gate" tk0_SHAPES_trust, .str "day" tk1_SHAPES_trust, .str "trust" tk2_SHAPES_trust] tn_SHAPES_trust, ts_SHAPES_trust⟩)
    (ek_SHAPES_folk : PySem.W.nsIn K B_SHAPES "folk" = some (some (.ref t_SHAPES_folk)))
    (lt_SHAPES_folk : K.lookup t_SHAPES_folk = some ⟨.type "tuple", to_SHAPES_folk, .seq #[.str "carriage" tk0_SHAPES_folk, .str "day" tk1_SHAPES_folk, .str "day" tk2_SHAPES_folk] tn_SHAPES_folk, ts_SHAPES_folk⟩)
    (ek_SHAPES_bargain : PySem.W.nsIn K B_SHAPES "bargain" = some (some (.ref t_SHAPES_bargain)))
    (lt_SHAPES_bargain : K.lookup t_SHAPES_bargain = some ⟨.type "tuple", to_SHAPES_bargain, .seq #[.str "gate" tk0_SHAPES_bargain, .str "carriage" tk1_SHAPES_bargain, .str "day" tk2_SHAPES_bargain, .str "day" tk3_SHAPES_bargain] tn_SHAPES_bargain, ts_SHAPES_bargain⟩)
    (ek_SHAPES_pass : PySem.W.nsIn K B_SHAPES "pass" = some (some (.ref t_SHAPES_pass)))
    (lt_SHAPES_pass : K.lookup t_SHAPES_pass = some ⟨.type "tuple", to_SHAPES_pass, .seq #[.str "day" tk0_SHAPES_pass, .str "minute" tk1_SHAPES_pass, .str "gate" tk2_SHAPES_pass, .str "carriage" tk3_SHAPES_pass, .str "horses" tk4_SHAPES_pass] tn_SHAPES_pass, ts_SHAPES_pass⟩)
    (ek_SHAPES_lost : PySem.W.nsIn K B_SHAPES "lost" = some (some (.ref t_SHAPES_lost)))
    (lt_SHAPES_lost : K.lookup t_SHAPES_lost = some ⟨.type "tuple", to_SHAPES_lost, .seq #[.str "number" tk0_SHAPES_lost, .str "minute" tk1_SHAPES_lost] tn_SHAPES_lost, ts_SHAPES_lost⟩)
    (ek_SHAPES_paid : PySem.W.nsIn K B_SHAPES "paid" = some (some (.ref t_SHAPES_paid)))
    (lt_SHAPES_paid : K.lookup t_SHAPES_paid = some ⟨.type "tuple", to_SHAPES_paid, .seq #[.str "carriage" tk0_SHAPES_paid, .str "day" tk1_SHAPES_paid, .str "payment" tk2_SHAPES_paid] tn_SHAPES_paid, ts_SHAPES_paid⟩)
    (lo_SHAPES : (B_SHAPES == sysModules) = false)
    (em0_SHAPES : PySem.W.nsIn K B_SHAPES "" = some none)
    (em1_SHAPES : PySem.W.nsIn K B_SHAPES "Pass" = some none)
    (em2_SHAPES : PySem.W.nsIn K B_SHAPES "tolls" = some none)
    (em3_SHAPES : PySem.W.nsIn K B_SHAPES "gate" = some none)
    (em4_SHAPES : PySem.W.nsIn K B_SHAPES "pass " = some none)
    (kk_SHAPES : es_SHAPES.toList.map (fun e => keyS e.key) = (["toll", "board", "trust", "folk", "bargain", "pass", "lost", "paid"] : List Str).map some)
    (z_super : PySem.W.nsIn K mainGlobals "super" = some none)
    (htop : (l.prog.main.scope.names.lookup ("super" : Str)).isSome = false)
    (xst : PySem.W.nsIn K cStatics "thirdparty.any" = some none)
    (xsp : PySem.W.specialIn K (.builtin "object.__class__") "__get__" = some (some (.builtin "getset_descriptor.__get__")))
    (xtk : PySem.W.takesIn K (.builtin "object.__class__") = some true)
    {C_PikeError : Addr}
    (a_PikeError : PySem.W.nsIn K mainGlobals "PikeError" = some (some (.ref C_PikeError)))
    {C_BadFact : Addr}
    (a_BadFact : PySem.W.nsIn K mainGlobals "BadFact" = some (some (.ref C_BadFact)))
    {C_BadPage : Addr}
    (a_BadPage : PySem.W.nsIn K mainGlobals "BadPage" = some (some (.ref C_BadPage)))
    {C_Full : Addr}
    (a_Full : PySem.W.nsIn K mainGlobals "Full" = some (some (.ref C_Full)))
    {f_c_PikeError_init cda_c_PikeError_init cc_c_PikeError_init : Addr} {od_c_PikeError_init od2_c_PikeError_init od3_c_PikeError_init an_c_PikeError_init : Option Addr} {sl_c_PikeError_init sl2_c_PikeError_init sl3_c_PikeError_init : Array (Option Value)} {oc_c_PikeError_init oc2_c_PikeError_init oc3_c_PikeError_init kV_c_PikeError_init dc_c_PikeError_init pm_c_PikeError_init ct_c_PikeError_init : Value} {vs_c_PikeError_init : Array Value} {fl_c_PikeError_init : Str} {tf_c_PikeError_init : Tok}
    (at_c_PikeError_init : PySem.W.findIn K (.ref C_PikeError) "__init__" = some (some (.ref f_c_PikeError_init)))
    (lk_c_PikeError_init : K.lookup f_c_PikeError_init = some ⟨oc_c_PikeError_init, od_c_PikeError_init, .func (PySem.W.ksFn "__init__" "PikeError.__init__" (defArgs s_c_PikeError_init) (defBody s_c_PikeError_init) (defScope s_c_PikeError_init) .none kV_c_PikeError_init dc_c_PikeError_init pm_c_PikeError_init an_c_PikeError_init (.ref cda_c_PikeError_init) ct_c_PikeError_init cc_c_PikeError_init), sl_c_PikeError_init⟩)
    (cdk_c_PikeError_init : PySem.W.codeIn K (.ref cda_c_PikeError_init) "PikeError.__init__" = true)
    (kf_c_PikeError_init : PySem.W.keepIn K (.ref f_c_PikeError_init) = true)
    (tyf_c_PikeError_init : PySem.W.typeIn K (.ref f_c_PikeError_init) = some (.type "function"))
    (fnf_c_PikeError_init : PySem.W.fnIn K f_c_PikeError_init = true)
    (lc_c_PikeError_init : K.lookup cc_c_PikeError_init = some ⟨oc2_c_PikeError_init, od2_c_PikeError_init, .cell (some (.ref C_PikeError)), sl2_c_PikeError_init⟩)
    (ld_c_PikeError_init : K.lookup cda_c_PikeError_init = some ⟨oc3_c_PikeError_init, od3_c_PikeError_init, .fields vs_c_PikeError_init, sl3_c_PikeError_init⟩)
    (hv_c_PikeError_init : vs_c_PikeError_init[2]? = some (.str fl_c_PikeError_init tf_c_PikeError_init))
    (hf_c_PikeError_init : ((l.prog.main.file : Str) == fl_c_PikeError_init) = true)
    {f_c_BadFact_init cda_c_BadFact_init cc_c_BadFact_init : Addr} {od_c_BadFact_init od2_c_BadFact_init od3_c_BadFact_init an_c_BadFact_init : Option Addr} {sl_c_BadFact_init sl2_c_BadFact_init sl3_c_BadFact_init : Array (Option Value)} {oc_c_BadFact_init oc2_c_BadFact_init oc3_c_BadFact_init kV_c_BadFact_init dc_c_BadFact_init pm_c_BadFact_init ct_c_BadFact_init : Value} {vs_c_BadFact_init : Array Value} {fl_c_BadFact_init : Str} {tf_c_BadFact_init : Tok}
    (at_c_BadFact_init : PySem.W.findIn K (.ref C_BadFact) "__init__" = some (some (.ref f_c_BadFact_init)))
    (lk_c_BadFact_init : K.lookup f_c_BadFact_init = some ⟨oc_c_BadFact_init, od_c_BadFact_init, .func (PySem.W.ksFn "__init__" "BadFact.__init__" (defArgs s_c_BadFact_init) (defBody s_c_BadFact_init) (defScope s_c_BadFact_init) .none kV_c_BadFact_init dc_c_BadFact_init pm_c_BadFact_init an_c_BadFact_init (.ref cda_c_BadFact_init) ct_c_BadFact_init cc_c_BadFact_init), sl_c_BadFact_init⟩)
    (cdk_c_BadFact_init : PySem.W.codeIn K (.ref cda_c_BadFact_init) "BadFact.__init__" = true)
    (kf_c_BadFact_init : PySem.W.keepIn K (.ref f_c_BadFact_init) = true)
    (tyf_c_BadFact_init : PySem.W.typeIn K (.ref f_c_BadFact_init) = some (.type "function"))
    (fnf_c_BadFact_init : PySem.W.fnIn K f_c_BadFact_init = true)
    (lc_c_BadFact_init : K.lookup cc_c_BadFact_init = some ⟨oc2_c_BadFact_init, od2_c_BadFact_init, .cell (some (.ref C_BadFact)), sl2_c_BadFact_init⟩)
    (ld_c_BadFact_init : K.lookup cda_c_BadFact_init = some ⟨oc3_c_BadFact_init, od3_c_BadFact_init, .fields vs_c_BadFact_init, sl3_c_BadFact_init⟩)
    (hv_c_BadFact_init : vs_c_BadFact_init[2]? = some (.str fl_c_BadFact_init tf_c_BadFact_init))
    (hf_c_BadFact_init : ((l.prog.main.file : Str) == fl_c_BadFact_init) = true)
    {f_c_BadPage_init cda_c_BadPage_init cc_c_BadPage_init : Addr} {od_c_BadPage_init od2_c_BadPage_init od3_c_BadPage_init an_c_BadPage_init : Option Addr} {sl_c_BadPage_init sl2_c_BadPage_init sl3_c_BadPage_init : Array (Option Value)} {oc_c_BadPage_init oc2_c_BadPage_init oc3_c_BadPage_init kV_c_BadPage_init dc_c_BadPage_init pm_c_BadPage_init ct_c_BadPage_init : Value} {vs_c_BadPage_init : Array Value} {fl_c_BadPage_init : Str} {tf_c_BadPage_init : Tok}
    (at_c_BadPage_init : PySem.W.findIn K (.ref C_BadPage) "__init__" = some (some (.ref f_c_BadPage_init)))
    (lk_c_BadPage_init : K.lookup f_c_BadPage_init = some ⟨oc_c_BadPage_init, od_c_BadPage_init, .func (PySem.W.ksFn "__init__" "BadPage.__init__" (defArgs s_c_BadPage_init) (defBody s_c_BadPage_init) (defScope s_c_BadPage_init) .none kV_c_BadPage_init dc_c_BadPage_init pm_c_BadPage_init an_c_BadPage_init (.ref cda_c_BadPage_init) ct_c_BadPage_init cc_c_BadPage_init), sl_c_BadPage_init⟩)
    (cdk_c_BadPage_init : PySem.W.codeIn K (.ref cda_c_BadPage_init) "BadPage.__init__" = true)
    (kf_c_BadPage_init : PySem.W.keepIn K (.ref f_c_BadPage_init) = true)
    (tyf_c_BadPage_init : PySem.W.typeIn K (.ref f_c_BadPage_init) = some (.type "function"))
    (fnf_c_BadPage_init : PySem.W.fnIn K f_c_BadPage_init = true)
    (lc_c_BadPage_init : K.lookup cc_c_BadPage_init = some ⟨oc2_c_BadPage_init, od2_c_BadPage_init, .cell (some (.ref C_BadPage)), sl2_c_BadPage_init⟩)
    (ld_c_BadPage_init : K.lookup cda_c_BadPage_init = some ⟨oc3_c_BadPage_init, od3_c_BadPage_init, .fields vs_c_BadPage_init, sl3_c_BadPage_init⟩)
    (hv_c_BadPage_init : vs_c_BadPage_init[2]? = some (.str fl_c_BadPage_init tf_c_BadPage_init))
    (hf_c_BadPage_init : ((l.prog.main.file : Str) == fl_c_BadPage_init) = true)
    {nm_BadFact q_BadFact : Str} {N_BadFact : Addr} {bs_BadFact bm_BadFact sub_BadFact : List Value} {sn_BadFact : List Str} {ab_BadFact : Bool} {col_BadFact : Option Bool} {dd_BadFact : Option Addr} {k0_BadFact k1_BadFact k2_BadFact k3_BadFact k5_BadFact : Option Value} {tn_BadFact : Tok}
    (cl_BadFact : K.lookup C_BadFact = some (excClassObj nm_BadFact q_BadFact C_BadFact N_BadFact bs_BadFact bm_BadFact true sn_BadFact sub_BadFact ab_BadFact col_BadFact dd_BadFact k0_BadFact k1_BadFact k2_BadFact k3_BadFact k5_BadFact "ValueError.__new__"))
    (rf_BadFact : PySem.ZEX.refsX false bm_BadFact = true)
    (kn_BadFact : k2_BadFact = some (.str "BadFact" tn_BadFact))
    (sa_BadFact : PySem.W.findIn K (.ref C_BadFact) "__setattr__" = some (some (.builtin "object.__setattr__")))
    (ex_BadFact : PySem.W.subIn K (.ref C_BadFact) (.type "BaseException") = some true)
    (ty_BadFact : PySem.W.typeIn K (.ref C_BadFact) = some (.type "type"))
    (kp_BadFact : PySem.W.keepIn K (.ref C_BadFact) = true)
    (ga_BadFact : PySem.W.findIn K (.ref C_BadFact) "__getattribute__" = some (some (.builtin "BaseException.__getattribute__")))
    (gg_BadFact : PySem.W.findIn K (.ref C_BadFact) "__getattr__" = some none)
    (ic_BadFact : PySem.W.isClsIn K C_BadFact = true)
    (ca_BadFact : PySem.W.findIn K (.ref C_BadFact) "__class__" = some (some (.builtin "object.__class__")))
    (ob_BadFact : PySem.W.mroIn K C_BadFact (.type "object") = some true)
    (cn_BadFact : PySem.W.findCls K (.ref C_BadFact) (.type "type") "__name__" = some (.get (.builtin "getset_descriptor.__get__") (.builtin "type.__name__") (.ref C_BadFact) (.type "type")))
    (icb_BadFact : PySem.W.isClsIn K C_PikeError = true)
    (mr_BadFact : PySem.W.mroIn K C_BadFact (.ref C_PikeError) = some true)
    (si_BadFact : PySem.W.ks_superIn K C_BadFact C_PikeError "__init__" = some (some (.builtin "ValueError.__init__")))
    (sb_BadFact : PySem.W.subIn K (.ref C_BadFact) (.type "ValueError") = some true)
    (noc_BadFact : PySem.W.findIn K (.ref C_BadFact) "called" = some none)
    (hd_BadFact : PySem.W.hasDictIn K C_BadFact = true)
    (ss_BadFact : PySem.W.subIn K (.ref C_BadFact) (.ref C_BadFact) = some true)
    (ini_BadFact : PySem.W.findIn K (.ref C_BadFact) "__init__" = some (some (.ref f_c_BadFact_init)))
    (mrs_BadFact : PySem.W.mroIn K C_BadFact (.ref C_BadFact) = some true)
    (sos_BadFact : PySem.W.ks_superIn K C_BadFact C_BadFact "__init__" = some (some (.ref f_c_PikeError_init)))
    (nof_BadFact : PySem.W.findIn K (.ref C_BadFact) "place" = some none)
    {nm_BadPage q_BadPage : Str} {N_BadPage : Addr} {bs_BadPage bm_BadPage sub_BadPage : List Value} {sn_BadPage : List Str} {ab_BadPage : Bool} {col_BadPage : Option Bool} {dd_BadPage : Option Addr} {k0_BadPage k1_BadPage k2_BadPage k3_BadPage k5_BadPage : Option Value} {tn_BadPage : Tok}
    (cl_BadPage : K.lookup C_BadPage = some (excClassObj nm_BadPage q_BadPage C_BadPage N_BadPage bs_BadPage bm_BadPage true sn_BadPage sub_BadPage ab_BadPage col_BadPage dd_BadPage k0_BadPage k1_BadPage k2_BadPage k3_BadPage k5_BadPage "ValueError.__new__"))
    (rf_BadPage : PySem.ZEX.refsX false bm_BadPage = true)
    (kn_BadPage : k2_BadPage = some (.str "BadPage" tn_BadPage))
    (sa_BadPage : PySem.W.findIn K (.ref C_BadPage) "__setattr__" = some (some (.builtin "object.__setattr__")))
    (ex_BadPage : PySem.W.subIn K (.ref C_BadPage) (.type "BaseException") = some true)
    (ty_BadPage : PySem.W.typeIn K (.ref C_BadPage) = some (.type "type"))
    (kp_BadPage : PySem.W.keepIn K (.ref C_BadPage) = true)
    (ga_BadPage : PySem.W.findIn K (.ref C_BadPage) "__getattribute__" = some (some (.builtin "BaseException.__getattribute__")))
    (gg_BadPage : PySem.W.findIn K (.ref C_BadPage) "__getattr__" = some none)
    (ic_BadPage : PySem.W.isClsIn K C_BadPage = true)
    (ca_BadPage : PySem.W.findIn K (.ref C_BadPage) "__class__" = some (some (.builtin "object.__class__")))
    (ob_BadPage : PySem.W.mroIn K C_BadPage (.type "object") = some true)
    (cn_BadPage : PySem.W.findCls K (.ref C_BadPage) (.type "type") "__name__" = some (.get (.builtin "getset_descriptor.__get__") (.builtin "type.__name__") (.ref C_BadPage) (.type "type")))
    (icb_BadPage : PySem.W.isClsIn K C_PikeError = true)
    (mr_BadPage : PySem.W.mroIn K C_BadPage (.ref C_PikeError) = some true)
    (si_BadPage : PySem.W.ks_superIn K C_BadPage C_PikeError "__init__" = some (some (.builtin "ValueError.__init__")))
    (sb_BadPage : PySem.W.subIn K (.ref C_BadPage) (.type "ValueError") = some true)
    (noc_BadPage : PySem.W.findIn K (.ref C_BadPage) "called" = some none)
    (hd_BadPage : PySem.W.hasDictIn K C_BadPage = true)
    (ss_BadPage : PySem.W.subIn K (.ref C_BadPage) (.ref C_BadPage) = some true)
    (ini_BadPage : PySem.W.findIn K (.ref C_BadPage) "__init__" = some (some (.ref f_c_BadPage_init)))
    (mrs_BadPage : PySem.W.mroIn K C_BadPage (.ref C_BadPage) = some true)
    (sos_BadPage : PySem.W.ks_superIn K C_BadPage C_BadPage "__init__" = some (some (.ref f_c_PikeError_init)))
    (nof_BadPage : PySem.W.findIn K (.ref C_BadPage) "row" = some none)
    {nm_Full q_Full : Str} {N_Full : Addr} {bs_Full bm_Full sub_Full : List Value} {sn_Full : List Str} {ab_Full : Bool} {col_Full : Option Bool} {dd_Full : Option Addr} {k0_Full k1_Full k2_Full k3_Full k5_Full : Option Value} {tn_Full : Tok}
    (cl_Full : K.lookup C_Full = some (excClassObj nm_Full q_Full C_Full N_Full bs_Full bm_Full true sn_Full sub_Full ab_Full col_Full dd_Full k0_Full k1_Full k2_Full k3_Full k5_Full "ValueError.__new__"))
    (rf_Full : PySem.ZEX.refsX false bm_Full = true)
    (kn_Full : k2_Full = some (.str "Full" tn_Full))
    (sa_Full : PySem.W.findIn K (.ref C_Full) "__setattr__" = some (some (.builtin "object.__setattr__")))
    (ex_Full : PySem.W.subIn K (.ref C_Full) (.type "BaseException") = some true)
    (ty_Full : PySem.W.typeIn K (.ref C_Full) = some (.type "type"))
    (kp_Full : PySem.W.keepIn K (.ref C_Full) = true)
    (ga_Full : PySem.W.findIn K (.ref C_Full) "__getattribute__" = some (some (.builtin "BaseException.__getattribute__")))
    (gg_Full : PySem.W.findIn K (.ref C_Full) "__getattr__" = some none)
    (ic_Full : PySem.W.isClsIn K C_Full = true)
    (ca_Full : PySem.W.findIn K (.ref C_Full) "__class__" = some (some (.builtin "object.__class__")))
    (ob_Full : PySem.W.mroIn K C_Full (.type "object") = some true)
    (cn_Full : PySem.W.findCls K (.ref C_Full) (.type "type") "__name__" = some (.get (.builtin "getset_descriptor.__get__") (.builtin "type.__name__") (.ref C_Full) (.type "type")))
    (icb_Full : PySem.W.isClsIn K C_PikeError = true)
    (mr_Full : PySem.W.mroIn K C_Full (.ref C_PikeError) = some true)
    (si_Full : PySem.W.ks_superIn K C_Full C_PikeError "__init__" = some (some (.builtin "ValueError.__init__")))
    (sb_Full : PySem.W.subIn K (.ref C_Full) (.type "ValueError") = some true)
    (noc_Full : PySem.W.findIn K (.ref C_Full) "called" = some none)
    (hd_Full : PySem.W.hasDictIn K C_Full = true)
    (ss_Full : PySem.W.subIn K (.ref C_Full) (.ref C_Full) = some true)
    (ini_Full : PySem.W.findIn K (.ref C_Full) "__init__" = some (some (.ref f_c_PikeError_init)))
    (ssx_BadFact_Full : PySem.W.subIn K (.ref C_BadFact) (.ref C_Full) = some false)
    (ssx_Full_BadFact : PySem.W.subIn K (.ref C_Full) (.ref C_BadFact) = some false)
    (a_Roll : PySem.W.nsIn K mainGlobals "Roll" = some (some (.ref C_Roll)))
    (pg_Roll : PySem.W.plainGet K C_Roll Str.empty = true)
    (hd_Roll : PySem.W.hasDictIn K C_Roll = true)
    (po_Roll : PySem.W.plainOver K C_Roll = true)
    (sa_Roll : PySem.W.findIn K (.ref C_Roll) "__setattr__" = some (some (.builtin "object.__setattr__")))
    (kp_Roll : PySem.W.keepIn K (.ref C_Roll) = true)
    (mki_Roll : PySem.W.makesIn K C_Roll = true)
    (ob_Roll : PySem.W.mroIn K C_Roll (.type "object") = some true)
    (ic_Roll : PySem.W.isClsIn K C_Roll = true)
    (tm_Roll : PySem.W.typeIn K (.ref C_Roll) = some (.type "type"))
    (nfo_Roll : PySem.W.notFirst K C_Roll (.ref C_Roll) = true)
    (clo_Roll : PySem.W.findIn K (.ref C_Roll) "__class__" = some (some (.builtin "object.__class__")))
    (gto_Roll : PySem.W.specialIn K (.builtin "object.__class__") "__get__" = some (some (.builtin "getset_descriptor.__get__")))
    (tko_Roll : PySem.W.takesIn K (.builtin "object.__class__") = some true)
    (na_Roll_states : PySem.W.findIn K (.ref C_Roll) "states" = some none)
    (na_Roll_undone : PySem.W.findIn K (.ref C_Roll) "undone" = some none)
    (sk_Roll_int : PySem.W.subIn K (.ref C_Roll) (.type "int") = some false)
    (at_c_Roll_init : PySem.W.findIn K (.ref C_Roll) "__init__" = some (some (.ref f_c_Roll_init)))
    (fn_c_Roll_init : PySem.W.isFn K (.ref f_c_Roll_init) = true)
    (lk_c_Roll_init : K.lookup f_c_Roll_init = some ⟨oc_c_Roll_init, od_c_Roll_init, .func (PySem.W.fnOf "__init__" "Roll.__init__" (defArgs s_c_Roll_init) (defBody s_c_Roll_init) (defScope s_c_Roll_init) .none kV_c_Roll_init dc_c_Roll_init pm_c_Roll_init an_c_Roll_init cd_c_Roll_init ct_c_Roll_init), sl_c_Roll_init⟩)
    (cd_ok_c_Roll_init : PySem.W.codeIn K cd_c_Roll_init "Roll.__init__" = true)
    (kf_c_Roll_init : PySem.W.keepIn K (.ref f_c_Roll_init) = true)
    (at_c_Roll_enter : PySem.W.findIn K (.ref C_Roll) "enter" = some (some (.ref f_c_Roll_enter)))
    (fn_c_Roll_enter : PySem.W.isFn K (.ref f_c_Roll_enter) = true)
    (lk_c_Roll_enter : K.lookup f_c_Roll_enter = some ⟨oc_c_Roll_enter, od_c_Roll_enter, .func (PySem.W.fnOf "enter" "Roll.enter" (defArgs s_c_Roll_enter) (defBody s_c_Roll_enter) (defScope s_c_Roll_enter) .none kV_c_Roll_enter dc_c_Roll_enter pm_c_Roll_enter an_c_Roll_enter cd_c_Roll_enter ct_c_Roll_enter), sl_c_Roll_enter⟩)
    (cd_ok_c_Roll_enter : PySem.W.codeIn K cd_c_Roll_enter "Roll.enter" = true)
    (kf_c_Roll_enter : PySem.W.keepIn K (.ref f_c_Roll_enter) = true)
    (at_c_Roll_tell : PySem.W.findIn K (.ref C_Roll) "tell" = some (some (.ref f_c_Roll_tell)))
    (fn_c_Roll_tell : PySem.W.isFn K (.ref f_c_Roll_tell) = true)
    (lk_c_Roll_tell : K.lookup f_c_Roll_tell = some ⟨oc_c_Roll_tell, od_c_Roll_tell, .func (PySem.W.fnOf "tell" "Roll.tell" (defArgs s_c_Roll_tell) (defBody s_c_Roll_tell) (defScope s_c_Roll_tell) .none kV_c_Roll_tell dc_c_Roll_tell pm_c_Roll_tell an_c_Roll_tell cd_c_Roll_tell ct_c_Roll_tell), sl_c_Roll_tell⟩)
    (cd_ok_c_Roll_tell : PySem.W.codeIn K cd_c_Roll_tell "Roll.tell" = true)
    (kf_c_Roll_tell : PySem.W.keepIn K (.ref f_c_Roll_tell) = true)
    (at_c_Roll_facts : PySem.W.findIn K (.ref C_Roll) "facts" = some (some (.ref f_c_Roll_facts)))
    (fn_c_Roll_facts : PySem.W.isFn K (.ref f_c_Roll_facts) = true)
    (lk_c_Roll_facts : K.lookup f_c_Roll_facts = some ⟨oc_c_Roll_facts, od_c_Roll_facts, .func (PySem.W.fnOf "facts" "Roll.facts" (defArgs s_c_Roll_facts) (defBody s_c_Roll_facts) (defScope s_c_Roll_facts) .none kV_c_Roll_facts dc_c_Roll_facts pm_c_Roll_facts an_c_Roll_facts cd_c_Roll_facts ct_c_Roll_facts), sl_c_Roll_facts⟩)
    (cd_ok_c_Roll_facts : PySem.W.codeIn K cd_c_Roll_facts "Roll.facts" = true)
    (kf_c_Roll_facts : PySem.W.keepIn K (.ref f_c_Roll_facts) = true)
    : TFun l.prog K mg w fa := by
  have e := hfa.symm.trans (PySem.W.mg_of X G aL)
  cases e
  have F0 := fun_mk (st := s_p_is_number) l0 c0 k0
  have b0 := F0.binds (ps := ["thing"]) fun _ _ _ _ _ _ us hl => match us, hl with | [_], _ => rfl
  have F1 := fun_mk (st := s_p_is_good) l1 c1 k1
  have b1 := F1.binds (ps := ["kind", "number"]) fun _ _ _ _ _ _ us hl => match us, hl with | [_, _], _ => rfl
  have F2 := fun_mk (st := s_p_are_rising) l2 c2 k2
  have b2 := F2.binds (ps := ["kind", "numbers"]) fun _ _ _ _ _ _ us hl => match us, hl with | [_, _], _ => rfl
  have F3 := fun_mk (st := s_p_need_fact) l3 c3 k3
  have b3 := F3.binds (ps := ["fact"]) fun _ _ _ _ _ _ us hl => match us, hl with | [_], _ => rfl
  have F4 := fun_mk (st := s_p_fact_text) l4 c4 k4
  have b4 := F4.binds (ps := ["fact"]) fun _ _ _ _ _ _ us hl => match us, hl with | [_], _ => rfl
  have F5 := fun_mk (st := s_p_page_of) l5 c5 k5
  have b5 := F5.binds (ps := ["roll"]) fun _ _ _ _ _ _ us hl => match us, hl with | [_], _ => rfl
  have F6 := fun_mk (st := s_p_is_number_text) l6 c6 k6
  have b6 := F6.binds (ps := ["word"]) fun _ _ _ _ _ _ us hl => match us, hl with | [_], _ => rfl
  have F7 := fun_mk (st := s_p_read_numbers) l7 c7 k7
  have b7 := F7.binds (ps := ["words"]) fun _ _ _ _ _ _ us hl => match us, hl with | [_], _ => rfl
  have F8 := fun_mk (st := s_p_read_fact) l8 c8 k8
  have b8 := F8.binds (ps := ["words"]) fun _ _ _ _ _ _ us hl => match us, hl with | [_], _ => rfl
  have F9 := fun_mk (st := s_p_tell_row) l9 c9 k9
  have b9 := F9.binds (ps := ["roll", "at", "row"]) fun _ _ _ _ _ _ us hl => match us, hl with | [_, _, _], _ => rfl
  have F10 := fun_mk (st := s_p_read_page) l10 c10 k10
  have b10 := F10.binds (ps := ["text"]) fun _ _ _ _ _ _ us hl => match us, hl with | [_], _ => rfl
  have F11 := fun_mk (st := s_l_bag) l11 c11 k11
  have b11 := F11.binds (ps := ["_law_script"]) fun _ _ _ _ _ _ us hl => match us, hl with | [_], _ => rfl
  have F12 := fun_mk (st := s_l_pull) l12 c12 k12
  have b12 := F12.binds (ps := ["_law_bag_here", "_law_amount"]) fun _ _ _ _ _ _ us hl => match us, hl with | [_, _], _ => rfl
  have F13 := fun_mk (st := s_l_like) l13 c13 k13
  have b13 := F13.binds (ps := ["_law_found", "_law_due"]) fun _ _ _ _ _ _ us hl => match us, hl with | [_, _], _ => rfl
  have F14 := fun_mk (st := s_l_gate) l14 c14 k14
  have b14 := F14.binds (ps := ["_law_bag_here"]) fun _ _ _ _ _ _ us hl => match us, hl with | [_], _ => rfl
  have F15 := fun_mk (st := s_l_day) l15 c15 k15
  have b15 := F15.binds (ps := ["_law_bag_here"]) fun _ _ _ _ _ _ us hl => match us, hl with | [_], _ => rfl
  have F16 := fun_mk (st := s_l_board) l16 c16 k16
  have b16 := F16.binds (ps := ["_law_bag_here"]) fun _ _ _ _ _ _ us hl => match us, hl with | [_], _ => rfl
  have F17 := fun_mk (st := s_l_passing) l17 c17 k17
  have b17 := F17.binds (ps := ["_law_bag_here"]) fun _ _ _ _ _ _ us hl => match us, hl with | [_], _ => rfl
  have F18 := fun_mk (st := s_l_stretch) l18 c18 k18
  have b18 := F18.binds (ps := ["_law_bag_here"]) fun _ _ _ _ _ _ us hl => match us, hl with | [_], _ => rfl
  have F19 := fun_mk (st := s_l_fact) l19 c19 k19
  have b19 := F19.binds (ps := ["_law_bag_here", "_law_amount"]) fun _ _ _ _ _ _ us hl => match us, hl with | [_, _], _ => rfl
  have F20 := fun_mk (st := s_l_fact_place) l20 c20 k20
  have b20 := F20.binds (ps := ["_law_fact_here"]) fun _ _ _ _ _ _ us hl => match us, hl with | [_], _ => rfl
  have F21 := fun_mk (st := s_l_text) l21 c21 k21
  have b21 := F21.binds (ps := ["_law_fact_here"]) fun _ _ _ _ _ _ us hl => match us, hl with | [_], _ => rfl
  have F22 := fun_mk (st := s_l_number_read) l22 c22 k22
  have b22 := F22.binds (ps := ["_law_word"]) fun _ _ _ _ _ _ us hl => match us, hl with | [_], _ => rfl
  have F23 := fun_mk (st := s_l_fact_read) l23 c23 k23
  have b23 := F23.binds (ps := ["_law_words"]) fun _ _ _ _ _ _ us hl => match us, hl with | [_], _ => rfl
  have F24 := fun_mk (st := s_l_words_bent) l24 c24 k24
  have b24 := F24.binds (ps := ["_law_bag_here", "_law_row"]) fun _ _ _ _ _ _ us hl => match us, hl with | [_, _], _ => rfl
  have F25 := fun_mk (st := s_l_sign) l25 c25 k25
  have b25 := F25.binds (ps := ["_law_bag_here"]) fun _ _ _ _ _ _ us hl => match us, hl with | [_], _ => rfl
  have F26 := fun_mk (st := s_l_text_bent) l26 c26 k26
  have b26 := F26.binds (ps := ["_law_bag_here", "_law_text_here"]) fun _ _ _ _ _ _ us hl => match us, hl with | [_, _], _ => rfl
  have F27 := fun_mk (st := s_l_told) l27 c27 k27
  have b27 := F27.binds (ps := ["_law_text_here"]) fun _ _ _ _ _ _ us hl => match us, hl with | [_], _ => rfl
  have F28 := fun_mk (st := s_l_wrong) l28 c28 k28
  have b28 := F28.binds (ps := ["_law_text_here"]) fun _ _ _ _ _ _ us hl => match us, hl with | [_], _ => rfl
  have F_c_Roll_init := fun_mk (st := s_c_Roll_init) lk_c_Roll_init cd_ok_c_Roll_init kf_c_Roll_init
  have b_c_Roll_init := F_c_Roll_init.binds (ps := ["self"]) fun _ _ _ _ _ _ us hl => match us, hl with | [_], _ => rfl
  have F_c_Roll_enter := fun_mk (st := s_c_Roll_enter) lk_c_Roll_enter cd_ok_c_Roll_enter kf_c_Roll_enter
  have b_c_Roll_enter := F_c_Roll_enter.binds (ps := ["self", "state"]) fun _ _ _ _ _ _ us hl => match us, hl with | [_, _], _ => rfl
  have F_c_Roll_tell := fun_mk (st := s_c_Roll_tell) lk_c_Roll_tell cd_ok_c_Roll_tell kf_c_Roll_tell
  have b_c_Roll_tell := F_c_Roll_tell.binds (ps := ["self", "fact"]) fun _ _ _ _ _ _ us hl => match us, hl with | [_, _], _ => rfl
  have F_c_Roll_facts := fun_mk (st := s_c_Roll_facts) lk_c_Roll_facts cd_ok_c_Roll_facts kf_c_Roll_facts
  have b_c_Roll_facts := F_c_Roll_facts.binds (ps := ["self"]) fun _ _ _ _ _ _ us hl => match us, hl with | [_], _ => rfl
  have T : Tx l.prog K mg w := {
    f_p_is_number := _, d_p_is_number := _, F_p_is_number := F0, g_p_is_number := PySem.W.mg_of X G a0, b_p_is_number := b0,
    f_p_is_good := _, d_p_is_good := _, F_p_is_good := F1, g_p_is_good := PySem.W.mg_of X G a1, b_p_is_good := b1,
    f_p_are_rising := _, d_p_are_rising := _, F_p_are_rising := F2, g_p_are_rising := PySem.W.mg_of X G a2, b_p_are_rising := b2,
    f_p_need_fact := _, d_p_need_fact := _, F_p_need_fact := F3, g_p_need_fact := PySem.W.mg_of X G a3, b_p_need_fact := b3,
    f_p_fact_text := _, d_p_fact_text := _, F_p_fact_text := F4, g_p_fact_text := PySem.W.mg_of X G a4, b_p_fact_text := b4,
    f_p_page_of := _, d_p_page_of := _, F_p_page_of := F5, g_p_page_of := PySem.W.mg_of X G a5, b_p_page_of := b5,
    f_p_is_number_text := _, d_p_is_number_text := _, F_p_is_number_text := F6, g_p_is_number_text := PySem.W.mg_of X G a6, b_p_is_number_text := b6,
    f_p_read_numbers := _, d_p_read_numbers := _, F_p_read_numbers := F7, g_p_read_numbers := PySem.W.mg_of X G a7, b_p_read_numbers := b7,
    f_p_read_fact := _, d_p_read_fact := _, F_p_read_fact := F8, g_p_read_fact := PySem.W.mg_of X G a8, b_p_read_fact := b8,
    f_p_tell_row := _, d_p_tell_row := _, F_p_tell_row := F9, g_p_tell_row := PySem.W.mg_of X G a9, b_p_tell_row := b9,
    f_p_read_page := _, d_p_read_page := _, F_p_read_page := F10, g_p_read_page := PySem.W.mg_of X G a10, b_p_read_page := b10,
    f_l_bag := _, d_l_bag := _, F_l_bag := F11, g_l_bag := PySem.W.mg_of X G a11, b_l_bag := b11,
    f_l_pull := _, d_l_pull := _, F_l_pull := F12, g_l_pull := PySem.W.mg_of X G a12, b_l_pull := b12,
    f_l_like := _, d_l_like := _, F_l_like := F13, g_l_like := PySem.W.mg_of X G a13, b_l_like := b13,
    f_l_gate := _, d_l_gate := _, F_l_gate := F14, g_l_gate := PySem.W.mg_of X G a14, b_l_gate := b14,
    f_l_day := _, d_l_day := _, F_l_day := F15, g_l_day := PySem.W.mg_of X G a15, b_l_day := b15,
    f_l_board := _, d_l_board := _, F_l_board := F16, g_l_board := PySem.W.mg_of X G a16, b_l_board := b16,
    f_l_passing := _, d_l_passing := _, F_l_passing := F17, g_l_passing := PySem.W.mg_of X G a17, b_l_passing := b17,
    f_l_stretch := _, d_l_stretch := _, F_l_stretch := F18, g_l_stretch := PySem.W.mg_of X G a18, b_l_stretch := b18,
    f_l_fact := _, d_l_fact := _, F_l_fact := F19, g_l_fact := PySem.W.mg_of X G a19, b_l_fact := b19,
    f_l_fact_place := _, d_l_fact_place := _, F_l_fact_place := F20, g_l_fact_place := PySem.W.mg_of X G a20, b_l_fact_place := b20,
    f_l_text := _, d_l_text := _, F_l_text := F21, g_l_text := PySem.W.mg_of X G a21, b_l_text := b21,
    f_l_number_read := _, d_l_number_read := _, F_l_number_read := F22, g_l_number_read := PySem.W.mg_of X G a22, b_l_number_read := b22,
    f_l_fact_read := _, d_l_fact_read := _, F_l_fact_read := F23, g_l_fact_read := PySem.W.mg_of X G a23, b_l_fact_read := b23,
    f_l_words_bent := _, d_l_words_bent := _, F_l_words_bent := F24, g_l_words_bent := PySem.W.mg_of X G a24, b_l_words_bent := b24,
    f_l_sign := _, d_l_sign := _, F_l_sign := F25, g_l_sign := PySem.W.mg_of X G a25, b_l_sign := b25,
    f_l_text_bent := _, d_l_text_bent := _, F_l_text_bent := F26, g_l_text_bent := PySem.W.mg_of X G a26, b_l_text_bent := b26,
    f_l_told := _, d_l_told := _, F_l_told := F27, g_l_told := PySem.W.mg_of X G a27, b_l_told := b27,
    f_l_wrong := _, d_l_wrong := _, F_l_wrong := F28, g_l_wrong := PySem.W.mg_of X G a28, b_l_wrong := b28,
    z_len := PySem.W.mg_none_of X G z_len,
    z_isinstance := PySem.W.mg_none_of X G z_isinstance,
    z_tuple := PySem.W.mg_none_of X G z_tuple,
    z_list := PySem.W.mg_none_of X G z_list,
    z_bool := PySem.W.mg_none_of X G z_bool,
    z_range := PySem.W.mg_none_of X G z_range,
    z_int := PySem.W.mg_none_of X G z_int,
    z_set := PySem.W.mg_none_of X G z_set,
    z_sorted := PySem.W.mg_none_of X G z_sorted,
    z_all := PySem.W.mg_none_of X G z_all,
    z_enumerate := PySem.W.mg_none_of X G z_enumerate,
    z_str := PySem.W.mg_none_of X G z_str,
    z_min := PySem.W.mg_none_of X G z_min,
    t_MOST_FACTS := _, k_MOST_FACTS := PySem.W.mg_of X G k_MOST_FACTS,
    t_MOST_FIGURES := _, k_MOST_FIGURES := PySem.W.mg_of X G k_MOST_FIGURES,
    B_BOUNDS := _, g_BOUNDS := PySem.W.mg_of X G a_BOUNDS,
    t_BOUNDS_gate := _, kd_BOUNDS_gate := ⟨_, _, _, ld_BOUNDS, kl_BOUNDS, ek_BOUNDS_gate, rfl⟩, kt_BOUNDS_gate := .inr ⟨_, _, _, lt_BOUNDS_gate, rfl, rfl, (show 2 ≤ sizeLine from sz (by decide)), (.cons ⟨_, rfl⟩ (.cons ⟨_, rfl⟩ .nil))⟩,
    t_BOUNDS_carriage := _, kd_BOUNDS_carriage := ⟨_, _, _, ld_BOUNDS, kl_BOUNDS, ek_BOUNDS_carriage, rfl⟩, kt_BOUNDS_carriage := .inr ⟨_, _, _, lt_BOUNDS_carriage, rfl, rfl, (show 2 ≤ sizeLine from sz (by decide)), (.cons ⟨_, rfl⟩ (.cons ⟨_, rfl⟩ .nil))⟩,
    t_BOUNDS_trust := _, kd_BOUNDS_trust := ⟨_, _, _, ld_BOUNDS, kl_BOUNDS, ek_BOUNDS_trust, rfl⟩, kt_BOUNDS_trust := .inr ⟨_, _, _, lt_BOUNDS_trust, rfl, rfl, (show 2 ≤ sizeLine from sz (by decide)), (.cons ⟨_, rfl⟩ (.cons ⟨_, rfl⟩ .nil))⟩,
    t_BOUNDS_day := _, kd_BOUNDS_day := ⟨_, _, _, ld_BOUNDS, kl_BOUNDS, ek_BOUNDS_day, rfl⟩, kt_BOUNDS_day := .inr ⟨_, _, _, lt_BOUNDS_day, rfl, rfl, (show 2 ≤ sizeLine from sz (by decide)), (.cons ⟨_, rfl⟩ (.cons ⟨_, rfl⟩ .nil))⟩,
    t_BOUNDS_minute := _, kd_BOUNDS_minute := ⟨_, _, _, ld_BOUNDS, kl_BOUNDS, ek_BOUNDS_minute, rfl⟩, kt_BOUNDS_minute := .inr ⟨_, _, _, lt_BOUNDS_minute, rfl, rfl, (show 2 ≤ sizeLine from sz (by decide)), (.cons ⟨_, rfl⟩ (.cons ⟨_, rfl⟩ .nil))⟩,
    t_BOUNDS_toll := _, kd_BOUNDS_toll := ⟨_, _, _, ld_BOUNDS, kl_BOUNDS, ek_BOUNDS_toll, rfl⟩, kt_BOUNDS_toll := .inr ⟨_, _, _, lt_BOUNDS_toll, rfl, rfl, (show 2 ≤ sizeLine from sz (by decide)), (.cons ⟨_, rfl⟩ (.cons ⟨_, rfl⟩ .nil))⟩,
    t_BOUNDS_payment := _, kd_BOUNDS_payment := ⟨_, _, _, ld_BOUNDS, kl_BOUNDS, ek_BOUNDS_payment, rfl⟩, kt_BOUNDS_payment := .inr ⟨_, _, _, lt_BOUNDS_payment, rfl, rfl, (show 2 ≤ sizeLine from sz (by decide)), (.cons ⟨_, rfl⟩ (.cons ⟨_, rfl⟩ .nil))⟩,
    t_BOUNDS_horses := _, kd_BOUNDS_horses := ⟨_, _, _, ld_BOUNDS, kl_BOUNDS, ek_BOUNDS_horses, rfl⟩, kt_BOUNDS_horses := .inr ⟨_, _, _, lt_BOUNDS_horses, rfl, rfl, (show 2 ≤ sizeLine from sz (by decide)), (.cons ⟨_, rfl⟩ (.cons ⟨_, rfl⟩ .nil))⟩,
    t_BOUNDS_number := _, kd_BOUNDS_number := ⟨_, _, _, ld_BOUNDS, kl_BOUNDS, ek_BOUNDS_number, rfl⟩, kt_BOUNDS_number := .inr ⟨_, _, _, lt_BOUNDS_number, rfl, rfl, (show 2 ≤ sizeLine from sz (by decide)), (.cons ⟨_, rfl⟩ (.cons rfl .nil))⟩,
    B_SHAPES := _, g_SHAPES := PySem.W.mg_of X G a_SHAPES,
    t_SHAPES_toll := _, kd_SHAPES_toll := ⟨_, _, _, ld_SHAPES, kl_SHAPES, ek_SHAPES_toll, rfl⟩, kt_SHAPES_toll := .inr ⟨_, _, _, lt_SHAPES_toll, rfl, rfl, (show 3 ≤ sizeLine from sz (by decide)), (.cons ⟨_, rfl⟩ (.cons ⟨_, rfl⟩ (.cons ⟨_, rfl⟩ .nil)))⟩,
    t_SHAPES_board := _, kd_SHAPES_board := ⟨_, _, _, ld_SHAPES, kl_SHAPES, ek_SHAPES_board, rfl⟩, kt_SHAPES_board := .inr ⟨_, _, _, lt_SHAPES_board, rfl, rfl, (show 3 ≤ sizeLine from sz (by decide)), (.cons ⟨_, rfl⟩ (.cons ⟨_, rfl⟩ (.cons ⟨_, rfl⟩ .nil)))⟩,
    t_SHAPES_trust := _, kd_SHAPES_trust := ⟨_, _, _, ld_SHAPES, kl_SHAPES, ek_SHAPES_trust, rfl⟩, kt_SHAPES_trust := .inr ⟨_, _, _, lt_SHAPES_trust, rfl, rfl, (show 3 ≤ sizeLine from sz (by decide)), (.cons ⟨_, rfl⟩ (.cons ⟨_, rfl⟩ (.cons ⟨_, rfl⟩ .nil)))⟩,
    t_SHAPES_folk := _, kd_SHAPES_folk := ⟨_, _, _, ld_SHAPES, kl_SHAPES, ek_SHAPES_folk, rfl⟩, kt_SHAPES_folk := .inr ⟨_, _, _, lt_SHAPES_folk, rfl, rfl, (show 3 ≤ sizeLine from sz (by decide)), (.cons ⟨_, rfl⟩ (.cons ⟨_, rfl⟩ (.cons ⟨_, rfl⟩ .nil)))⟩,
    t_SHAPES_bargain := _, kd_SHAPES_bargain := ⟨_, _, _, ld_SHAPES, kl_SHAPES, ek_SHAPES_bargain, rfl⟩, kt_SHAPES_bargain := .inr ⟨_, _, _, lt_SHAPES_bargain, rfl, rfl, (show 4 ≤ sizeLine from sz (by decide)), (.cons ⟨_, rfl⟩ (.cons ⟨_, rfl⟩ (.cons ⟨_, rfl⟩ (.cons ⟨_, rfl⟩ .nil))))⟩,
    t_SHAPES_pass := _, kd_SHAPES_pass := ⟨_, _, _, ld_SHAPES, kl_SHAPES, ek_SHAPES_pass, rfl⟩, kt_SHAPES_pass := .inr ⟨_, _, _, lt_SHAPES_pass, rfl, rfl, (show 5 ≤ sizeLine from sz (by decide)), (.cons ⟨_, rfl⟩ (.cons ⟨_, rfl⟩ (.cons ⟨_, rfl⟩ (.cons ⟨_, rfl⟩ (.cons ⟨_, rfl⟩ .nil)))))⟩,
    t_SHAPES_lost := _, kd_SHAPES_lost := ⟨_, _, _, ld_SHAPES, kl_SHAPES, ek_SHAPES_lost, rfl⟩, kt_SHAPES_lost := .inr ⟨_, _, _, lt_SHAPES_lost, rfl, rfl, (show 2 ≤ sizeLine from sz (by decide)), (.cons ⟨_, rfl⟩ (.cons ⟨_, rfl⟩ .nil))⟩,
    t_SHAPES_paid := _, kd_SHAPES_paid := ⟨_, _, _, ld_SHAPES, kl_SHAPES, ek_SHAPES_paid, rfl⟩, kt_SHAPES_paid := .inr ⟨_, _, _, lt_SHAPES_paid, rfl, rfl, (show 3 ≤ sizeLine from sz (by decide)), (.cons ⟨_, rfl⟩ (.cons ⟨_, rfl⟩ (.cons ⟨_, rfl⟩ .nil)))⟩,
    dic_SHAPES := ⟨_, _, ld_SHAPES, kl_SHAPES, lo_SHAPES⟩,
    ms0_SHAPES := ⟨_, _, ld_SHAPES, kl_SHAPES, lo_SHAPES, em0_SHAPES⟩,
    ms1_SHAPES := ⟨_, _, ld_SHAPES, kl_SHAPES, lo_SHAPES, em1_SHAPES⟩,
    ms2_SHAPES := ⟨_, _, ld_SHAPES, kl_SHAPES, lo_SHAPES, em2_SHAPES⟩,
    ms3_SHAPES := ⟨_, _, ld_SHAPES, kl_SHAPES, lo_SHAPES, em3_SHAPES⟩,
    ms4_SHAPES := ⟨_, _, ld_SHAPES, kl_SHAPES, lo_SHAPES, em4_SHAPES⟩,
    ka_SHAPES := fun z hz => ⟨_, _, ld_SHAPES, kl_SHAPES, lo_SHAPES, miss_of ld_SHAPES kk_SHAPES hz⟩,
    C_PikeError := _, g_PikeError := PySem.W.mg_of X G a_PikeError,
    C_BadFact := _, g_BadFact := PySem.W.mg_of X G a_BadFact,
    C_BadPage := _, g_BadPage := PySem.W.mg_of X G a_BadPage,
    C_Full := _, g_Full := PySem.W.mg_of X G a_Full,
    f_c_PikeError_init := _, d_c_PikeError_init := _, cda_c_PikeError_init := _, cc_c_PikeError_init := _, FS_c_PikeError_init := (⟨⟨_, _, _, _, _, _, _, _, rfl, lk_c_PikeError_init, cdk_c_PikeError_init⟩, ⟨_, _, _, lc_c_PikeError_init⟩, ⟨_, _, _, _, _, _, ld_c_PikeError_init, hv_c_PikeError_init, hf_c_PikeError_init⟩, kf_c_PikeError_init, tyf_c_PikeError_init, fnf_c_PikeError_init, htop, PySem.W.mg_none_of X G z_super⟩ : FunS l.prog K mg "__init__" "PikeError.__init__" s_c_PikeError_init f_c_PikeError_init _ cda_c_PikeError_init cc_c_PikeError_init C_PikeError), b_c_PikeError_init := FunS.binds (ps := ["self", "reason"]) (⟨⟨_, _, _, _, _, _, _, _, rfl, lk_c_PikeError_init, cdk_c_PikeError_init⟩, ⟨_, _, _, lc_c_PikeError_init⟩, ⟨_, _, _, _, _, _, ld_c_PikeError_init, hv_c_PikeError_init, hf_c_PikeError_init⟩, kf_c_PikeError_init, tyf_c_PikeError_init, fnf_c_PikeError_init, htop, PySem.W.mg_none_of X G z_super⟩ : FunS l.prog K mg "__init__" "PikeError.__init__" s_c_PikeError_init f_c_PikeError_init _ cda_c_PikeError_init cc_c_PikeError_init C_PikeError) (fun _ _ _ _ _ us hl => match us, hl with | [_, _], _ => rfl),
    f_c_BadFact_init := _, d_c_BadFact_init := _, cda_c_BadFact_init := _, cc_c_BadFact_init := _, FS_c_BadFact_init := (⟨⟨_, _, _, _, _, _, _, _, rfl, lk_c_BadFact_init, cdk_c_BadFact_init⟩, ⟨_, _, _, lc_c_BadFact_init⟩, ⟨_, _, _, _, _, _, ld_c_BadFact_init, hv_c_BadFact_init, hf_c_BadFact_init⟩, kf_c_BadFact_init, tyf_c_BadFact_init, fnf_c_BadFact_init, htop, PySem.W.mg_none_of X G z_super⟩ : FunS l.prog K mg "__init__" "BadFact.__init__" s_c_BadFact_init f_c_BadFact_init _ cda_c_BadFact_init cc_c_BadFact_init C_BadFact), b_c_BadFact_init := FunS.binds (ps := ["self", "place"]) (⟨⟨_, _, _, _, _, _, _, _, rfl, lk_c_BadFact_init, cdk_c_BadFact_init⟩, ⟨_, _, _, lc_c_BadFact_init⟩, ⟨_, _, _, _, _, _, ld_c_BadFact_init, hv_c_BadFact_init, hf_c_BadFact_init⟩, kf_c_BadFact_init, tyf_c_BadFact_init, fnf_c_BadFact_init, htop, PySem.W.mg_none_of X G z_super⟩ : FunS l.prog K mg "__init__" "BadFact.__init__" s_c_BadFact_init f_c_BadFact_init _ cda_c_BadFact_init cc_c_BadFact_init C_BadFact) (fun _ _ _ _ _ us hl => match us, hl with | [_, _], _ => rfl),
    f_c_BadPage_init := _, d_c_BadPage_init := _, cda_c_BadPage_init := _, cc_c_BadPage_init := _, FS_c_BadPage_init := (⟨⟨_, _, _, _, _, _, _, _, rfl, lk_c_BadPage_init, cdk_c_BadPage_init⟩, ⟨_, _, _, lc_c_BadPage_init⟩, ⟨_, _, _, _, _, _, ld_c_BadPage_init, hv_c_BadPage_init, hf_c_BadPage_init⟩, kf_c_BadPage_init, tyf_c_BadPage_init, fnf_c_BadPage_init, htop, PySem.W.mg_none_of X G z_super⟩ : FunS l.prog K mg "__init__" "BadPage.__init__" s_c_BadPage_init f_c_BadPage_init _ cda_c_BadPage_init cc_c_BadPage_init C_BadPage), b_c_BadPage_init := FunS.binds (ps := ["self", "row"]) (⟨⟨_, _, _, _, _, _, _, _, rfl, lk_c_BadPage_init, cdk_c_BadPage_init⟩, ⟨_, _, _, lc_c_BadPage_init⟩, ⟨_, _, _, _, _, _, ld_c_BadPage_init, hv_c_BadPage_init, hf_c_BadPage_init⟩, kf_c_BadPage_init, tyf_c_BadPage_init, fnf_c_BadPage_init, htop, PySem.W.mg_none_of X G z_super⟩ : FunS l.prog K mg "__init__" "BadPage.__init__" s_c_BadPage_init f_c_BadPage_init _ cda_c_BadPage_init cc_c_BadPage_init C_BadPage) (fun _ _ _ _ _ us hl => match us, hl with | [_, _], _ => rfl),
    pk_BadFact := ⟨⟨⟨_, _, _, _, _, _, _, _, _, _, _, _, _, _, _, cl_BadFact, rf_BadFact⟩, sa_BadFact, ex_BadFact, ty_BadFact, kp_BadFact⟩, ⟨ga_BadFact, gg_BadFact, ex_BadFact, ic_BadFact, ca_BadFact, xsp, xtk, ob_BadFact, xst, ty_BadFact, cn_BadFact, ⟨_, nameIn_of cl_BadFact kn_BadFact⟩⟩, ⟨xst, ic_BadFact, icb_BadFact, mr_BadFact⟩, si_BadFact, sb_BadFact, noc_BadFact⟩,
    in_BadFact := ini_BadFact,
    sc_BadFact := ⟨xst, ic_BadFact, ic_BadFact, mrs_BadFact⟩, so_BadFact := sos_BadFact,
    no_BadFact := nof_BadFact,
    e_BadFact := exm_self ex_BadFact ic_BadFact ty_BadFact ss_BadFact, xf_BadFact := ⟨ga_BadFact, gg_BadFact, ex_BadFact, hd_BadFact⟩,
    pk_BadPage := ⟨⟨⟨_, _, _, _, _, _, _, _, _, _, _, _, _, _, _, cl_BadPage, rf_BadPage⟩, sa_BadPage, ex_BadPage, ty_BadPage, kp_BadPage⟩, ⟨ga_BadPage, gg_BadPage, ex_BadPage, ic_BadPage, ca_BadPage, xsp, xtk, ob_BadPage, xst, ty_BadPage, cn_BadPage, ⟨_, nameIn_of cl_BadPage kn_BadPage⟩⟩, ⟨xst, ic_BadPage, icb_BadPage, mr_BadPage⟩, si_BadPage, sb_BadPage, noc_BadPage⟩,
    in_BadPage := ini_BadPage,
    sc_BadPage := ⟨xst, ic_BadPage, ic_BadPage, mrs_BadPage⟩, so_BadPage := sos_BadPage,
    no_BadPage := nof_BadPage,
    e_BadPage := exm_self ex_BadPage ic_BadPage ty_BadPage ss_BadPage, xf_BadPage := ⟨ga_BadPage, gg_BadPage, ex_BadPage, hd_BadPage⟩,
    pk_Full := ⟨⟨⟨_, _, _, _, _, _, _, _, _, _, _, _, _, _, _, cl_Full, rf_Full⟩, sa_Full, ex_Full, ty_Full, kp_Full⟩, ⟨ga_Full, gg_Full, ex_Full, ic_Full, ca_Full, xsp, xtk, ob_Full, xst, ty_Full, cn_Full, ⟨_, nameIn_of cl_Full kn_Full⟩⟩, ⟨xst, ic_Full, icb_Full, mr_Full⟩, si_Full, sb_Full, noc_Full⟩,
    in_Full := ini_Full,
    e_Full := exm_self ex_Full ic_Full ty_Full ss_Full, xf_Full := ⟨ga_Full, gg_Full, ex_Full, hd_Full⟩,
    e_BadFact_Full := exm_sub ex_Full ic_Full ty_Full ssx_BadFact_Full,
    e_Full_BadFact := exm_sub ex_BadFact ic_BadFact ty_BadFact ssx_Full_BadFact,
    C_Roll := _, g_Roll := PySem.W.mg_of X G a_Roll, cls_Roll := ⟨pg_Roll, hd_Roll, po_Roll, sa_Roll⟩,
    f_c_Roll_init := _, d_c_Roll_init := _, F_c_Roll_init := F_c_Roll_init, b_c_Roll_init := b_c_Roll_init,
    at_c_Roll_init := at_c_Roll_init, fn_c_Roll_init := fn_c_Roll_init,
    mk_Roll := ⟨mki_Roll, at_c_Roll_init, fn_c_Roll_init, kp_Roll⟩,
    f_c_Roll_enter := _, d_c_Roll_enter := _, F_c_Roll_enter := F_c_Roll_enter, b_c_Roll_enter := b_c_Roll_enter,
    at_c_Roll_enter := at_c_Roll_enter, fn_c_Roll_enter := fn_c_Roll_enter,
    f_c_Roll_tell := _, d_c_Roll_tell := _, F_c_Roll_tell := F_c_Roll_tell, b_c_Roll_tell := b_c_Roll_tell,
    at_c_Roll_tell := at_c_Roll_tell, fn_c_Roll_tell := fn_c_Roll_tell,
    f_c_Roll_facts := _, d_c_Roll_facts := _, F_c_Roll_facts := F_c_Roll_facts, b_c_Roll_facts := b_c_Roll_facts,
    at_c_Roll_facts := at_c_Roll_facts, fn_c_Roll_facts := fn_c_Roll_facts,
    na_Roll_states := na_Roll_states,
    na_Roll_undone := na_Roll_undone,
    ty_Roll := fun e => .base (.ins e ⟨pg_Roll, hd_Roll, po_Roll, sa_Roll⟩ clo_Roll gto_Roll tko_Roll ob_Roll), ko_Roll := Z.kit_self, nf_Roll := nfo_Roll,
    sk_Roll_int := sk_Roll_int }
  exact ⟨T, _, fun s v => .of_eq rfl, fun_mk (st := s_law) lL cL kL⟩
end Q
open PySem PySem.W PyProof.Rows in
set_option maxRecDepth 100000 in
set_option maxHeartbeats 0 in
theorem Q.hT (w : PySem.World) (mg : PySem.Str → Option PySem.Value) (fa : PySem.Addr) (h : PySem.Heap) (KX : (Q.hcap.heap_1 w.params).In h) (G : h.Ns PySem.mainGlobals mg) (hmg : mg "law" = some (.ref fa)) : Q.TFun (PySem.Challenge.rw_pikeroll_k31_texts_that_are_no_pages).prog (Q.hcap.heap_1 w.params) mg w fa := by
  w_on
  k_fill
  refine' Q.all_mk (l := PySem.Challenge.rw_pikeroll_k31_texts_that_are_no_pages) KX G hmg ?a0 ?l0 ?c0 ?k0 ?a1 ?l1 ?c1 ?k1 ?a2 ?l2 ?c2 ?k2 ?a3 ?l3 ?c3 ?k3 ?a4 ?l4 ?c4 ?k4 ?a5 ?l5 ?c5 ?k5 ?a6 ?l6 ?c6 ?k6 ?a7 ?l7 ?c7 ?k7 ?a8 ?l8 ?c8 ?k8 ?a9 ?l9 ?c9 ?k9 ?a10 ?l10 ?c10 ?k10 ?a11 ?l11 ?c11 ?k11 ?a12 ?l12 ?c12 ?k12 ?a13 ?l13 ?c13 ?k13 ?a14 ?l14 ?c14 ?k14 ?a15 ?l15 ?c15 ?k15 ?a16 ?l16 ?c16 ?k16 ?a17 ?l17 ?c17 ?k17 ?a18 ?l18 ?c18 ?k18 ?a19 ?l19 ?c19 ?k19 ?a20 ?l20 ?c20 ?k20 ?a21 ?l21 ?c21 ?k21 ?a22 ?l22 ?c22 ?k22 ?a23 ?l23 ?c23 ?k23 ?a24 ?l24 ?c24 ?k24 ?a25 ?l25 ?c25 ?k25 ?a26 ?l26 ?c26 ?k26 ?a27 ?l27 ?c27 ?k27 ?a28 ?l28 ?c28 ?k28 ?aL ?lL ?cL ?kL ?z_len ?z_isinstance ?z_tuple ?z_list ?z_bool ?z_range ?z_int ?z_set ?z_sorted ?z_all ?z_enumerate ?z_str ?z_min ?k_MOST_FACTS ?k_MOST_FIGURES ?a_BOUNDS ?ld_BOUNDS ?kl_BOUNDS ?ek_BOUNDS_gate ?lt_BOUNDS_gate ?ek_BOUNDS_carriage ?lt_BOUNDS_carriage ?ek_BOUNDS_trust ?lt_BOUNDS_trust ?ek_BOUNDS_day ?lt_BOUNDS_day ?ek_BOUNDS_minute ?lt_BOUNDS_minute ?ek_BOUNDS_toll ?lt_BOUNDS_toll ?ek_BOUNDS_payment ?lt_BOUNDS_payment ?ek_BOUNDS_horses ?lt_BOUNDS_horses ?ek_BOUNDS_number ?lt_BOUNDS_number ?a_SHAPES ?ld_SHAPES ?kl_SHAPES ?ek_SHAPES_toll ?lt_SHAPES_toll ?ek_SHAPES_board ?lt_SHAPES_board ?ek_SHAPES_trust ?lt_SHAPES_trust ?ek_SHAPES_folk ?lt_SHAPES_folk ?ek_SHAPES_bargain ?lt_SHAPES_bargain ?ek_SHAPES_pass ?lt_SHAPES_pass ?ek_SHAPES_lost ?lt_SHAPES_lost ?ek_SHAPES_paid ?lt_SHAPES_paid ?lo_SHAPES ?em0_SHAPES ?em1_SHAPES ?em2_SHAPES ?em3_SHAPES ?em4_SHAPES ?kk_SHAPES ?z_super ?htop ?xst ?xsp ?xtk ?a_PikeError ?a_BadFact ?a_BadPage ?a_Full ?at_c_PikeError_init ?lk_c_PikeError_init ?cdk_c_PikeError_init ?kf_c_PikeError_init ?tyf_c_PikeError_init ?fnf_c_PikeError_init ?lc_c_PikeError_init ?ld_c_PikeError_init ?hv_c_PikeError_init ?hf_c_PikeError_init ?at_c_BadFact_init ?lk_c_BadFact_init ?cdk_c_BadFact_init ?kf_c_BadFact_init ?tyf_c_BadFact_init ?fnf_c_BadFact_init ?lc_c_BadFact_init ?ld_c_BadFact_init ?hv_c_BadFact_init ?hf_c_BadFact_init ?at_c_BadPage_init ?lk_c_BadPage_init ?cdk_c_BadPage_init ?kf_c_BadPage_init ?tyf_c_BadPage_init ?fnf_c_BadPage_init ?lc_c_BadPage_init ?ld_c_BadPage_init ?hv_c_BadPage_init ?hf_c_BadPage_init ?cl_BadFact ?rf_BadFact ?kn_BadFact ?sa_BadFact ?ex_BadFact ?ty_BadFact ?kp_BadFact ?ga_BadFact ?gg_BadFact ?ic_BadFact ?ca_BadFact ?ob_BadFact ?cn_BadFact ?icb_BadFact ?mr_BadFact ?si_BadFact ?sb_BadFact ?noc_BadFact ?hd_BadFact ?ss_BadFact ?ini_BadFact ?mrs_BadFact ?sos_BadFact ?nof_BadFact ?cl_BadPage ?rf_BadPage ?kn_BadPage ?sa_BadPage ?ex_BadPage ?ty_BadPage ?kp_BadPage ?ga_BadPage ?gg_BadPage ?ic_BadPage ?ca_BadPage ?ob_BadPage ?cn_BadPage ?icb_BadPage ?mr_BadPage ?si_BadPage ?sb_BadPage ?noc_BadPage ?hd_BadPage ?ss_BadPage ?ini_BadPage ?mrs_BadPage ?sos_BadPage ?nof_BadPage ?cl_Full ?rf_Full ?kn_Full ?sa_Full ?ex_Full ?ty_Full ?kp_Full ?ga_Full ?gg_Full ?ic_Full ?ca_Full ?ob_Full ?cn_Full ?icb_Full ?mr_Full ?si_Full ?sb_Full ?noc_Full ?hd_Full ?ss_Full ?ini_Full ?ssx_BadFact_Full ?ssx_Full_BadFact ?a_Roll ?pg_Roll ?hd_Roll ?po_Roll ?sa_Roll ?kp_Roll ?mki_Roll ?ob_Roll ?ic_Roll ?tm_Roll ?nfo_Roll ?clo_Roll ?gto_Roll ?tko_Roll ?na_Roll_states ?na_Roll_undone ?sk_Roll_int ?at_c_Roll_init ?fn_c_Roll_init ?lk_c_Roll_init ?cd_ok_c_Roll_init ?kf_c_Roll_init ?at_c_Roll_enter ?fn_c_Roll_enter ?lk_c_Roll_enter ?cd_ok_c_Roll_enter ?kf_c_Roll_enter ?at_c_Roll_tell ?fn_c_Roll_tell ?lk_c_Roll_tell ?cd_ok_c_Roll_tell ?kf_c_Roll_tell ?at_c_Roll_facts ?fn_c_Roll_facts ?lk_c_Roll_facts ?cd_ok_c_Roll_facts ?kf_c_Roll_facts
  (case a0 => k_is)
  (case l0 => k_is)
  (case c0 => k_is)
  (case k0 => k_is)
  (case a1 => k_is)
  (case l1 => k_is)
  (case c1 => k_is)
  (case k1 => k_is)
  (case a2 => k_is)
  (case l2 => k_is)
  (case c2 => k_is)
  (case k2 => k_is)
  (case a3 => k_is)
  (case l3 => k_is)
  (case c3 => k_is)
  (case k3 => k_is)
  (case a4 => k_is)
  (case l4 => k_is)
  (case c4 => k_is)
  (case k4 => k_is)
  (case a5 => k_is)
  (case l5 => k_is)
  (case c5 => k_is)
  (case k5 => k_is)
  (case a6 => k_is)
  (case l6 => k_is)
  (case c6 => k_is)
  (case k6 => k_is)
  (case a7 => k_is)
  (case l7 => k_is)
  (case c7 => k_is)
  (case k7 => k_is)
  (case a8 => k_is)
  (case l8 => k_is)
  (case c8 => k_is)
  (case k8 => k_is)
  (case a9 => k_is)
  (case l9 => k_is)
  (case c9 => k_is)
  (case k9 => k_is)
  (case a10 => k_is)
  (case l10 => k_is)
  (case c10 => k_is)
  (case k10 => k_is)
  (case a11 => k_is)
  (case l11 => k_is)
  (case c11 => k_is)
  (case k11 => k_is)
  (case a12 => k_is)
  (case l12 => k_is)
  (case c12 => k_is)
  (case k12 => k_is)
  (case a13 => k_is)
  (case l13 => k_is)
  (case c13 => k_is)
  (case k13 => k_is)
  (case a14 => k_is)
  (case l14 => k_is)
  (case c14 => k_is)
  (case k14 => k_is)
  (case a15 => k_is)
  (case l15 => k_is)
  (case c15 => k_is)
  (case k15 => k_is)
  (case a16 => k_is)
  (case l16 => k_is)
  (case c16 => k_is)
  (case k16 => k_is)
  (case a17 => k_is)
  (case l17 => k_is)
  (case c17 => k_is)
  (case k17 => k_is)
  (case a18 => k_is)
  (case l18 => k_is)
  (case c18 => k_is)
  (case k18 => k_is)
  (case a19 => k_is)
  (case l19 => k_is)
  (case c19 => k_is)
  (case k19 => k_is)
  (case a20 => k_is)
  (case l20 => k_is)
  (case c20 => k_is)
  (case k20 => k_is)
  (case a21 => k_is)
  (case l21 => k_is)
  (case c21 => k_is)
  (case k21 => k_is)
  (case a22 => k_is)
  (case l22 => k_is)
  (case c22 => k_is)
  (case k22 => k_is)
  (case a23 => k_is)
  (case l23 => k_is)
  (case c23 => k_is)
  (case k23 => k_is)
  (case a24 => k_is)
  (case l24 => k_is)
  (case c24 => k_is)
  (case k24 => k_is)
  (case a25 => k_is)
  (case l25 => k_is)
  (case c25 => k_is)
  (case k25 => k_is)
  (case a26 => k_is)
  (case l26 => k_is)
  (case c26 => k_is)
  (case k26 => k_is)
  (case a27 => k_is)
  (case l27 => k_is)
  (case c27 => k_is)
  (case k27 => k_is)
  (case a28 => k_is)
  (case l28 => k_is)
  (case c28 => k_is)
  (case k28 => k_is)
  (case aL => k_is)
  (case lL => k_is)
  (case cL => k_is)
  (case kL => k_is)
  (case z_len => k_is)
  (case z_isinstance => k_is)
  (case z_tuple => k_is)
  (case z_list => k_is)
  (case z_bool => k_is)
  (case z_range => k_is)
  (case z_int => k_is)
  (case z_set => k_is)
  (case z_sorted => k_is)
  (case z_all => k_is)
  (case z_enumerate => k_is)
  (case z_str => k_is)
  (case z_min => k_is)
  (case k_MOST_FACTS => k_is)
  (case k_MOST_FIGURES => k_is)
  (case a_BOUNDS => k_is)
  (case ld_BOUNDS => k_is)
  (case kl_BOUNDS => k_keys)
  (case ek_BOUNDS_gate => k_is)
  (case lt_BOUNDS_gate => k_is)
  (case ek_BOUNDS_carriage => k_is)
  (case lt_BOUNDS_carriage => k_is)
  (case ek_BOUNDS_trust => k_is)
  (case lt_BOUNDS_trust => k_is)
  (case ek_BOUNDS_day => k_is)
  (case lt_BOUNDS_day => k_is)
  (case ek_BOUNDS_minute => k_is)
  (case lt_BOUNDS_minute => k_is)
  (case ek_BOUNDS_toll => k_is)
  (case lt_BOUNDS_toll => k_is)
  (case ek_BOUNDS_payment => k_is)
  (case lt_BOUNDS_payment => k_is)
  (case ek_BOUNDS_horses => k_is)
  (case lt_BOUNDS_horses => k_is)
  (case ek_BOUNDS_number => k_is)
  (case lt_BOUNDS_number => k_is)
  (case a_SHAPES => k_is)
  (case ld_SHAPES => k_is)
  (case kl_SHAPES => k_keys)
  (case ek_SHAPES_toll => k_is)
  (case lt_SHAPES_toll => k_is)
  (case ek_SHAPES_board => k_is)
  (case lt_SHAPES_board => k_is)
  (case ek_SHAPES_trust => k_is)
  (case lt_SHAPES_trust => k_is)
  (case ek_SHAPES_folk => k_is)
  (case lt_SHAPES_folk => k_is)
  (case ek_SHAPES_bargain => k_is)
  (case lt_SHAPES_bargain => k_is)
  (case ek_SHAPES_pass => k_is)
  (case lt_SHAPES_pass => k_is)
  (case ek_SHAPES_lost => k_is)
  (case lt_SHAPES_lost => k_is)
  (case ek_SHAPES_paid => k_is)
  (case lt_SHAPES_paid => k_is)
  (case lo_SHAPES => first | rfl | decide +kernel)
  (case em0_SHAPES => k_is)
  (case em1_SHAPES => k_is)
  (case em2_SHAPES => k_is)
  (case em3_SHAPES => k_is)
  (case em4_SHAPES => k_is)
  (case kk_SHAPES => first | rfl | decide +kernel)
  (case z_super => k_is)
  (case htop => first | rfl | decide +kernel)
  (case xst => k_is)
  (case xsp => k_is)
  (case xtk => k_is)
  (case a_PikeError => k_is)
  (case a_BadFact => k_is)
  (case a_BadPage => k_is)
  (case a_Full => k_is)
  (case at_c_PikeError_init => k_is)
  (case lk_c_PikeError_init => k_is)
  (case cdk_c_PikeError_init => k_is)
  (case kf_c_PikeError_init => k_is)
  (case tyf_c_PikeError_init => k_is)
  (case fnf_c_PikeError_init => k_is)
  (case lc_c_PikeError_init => k_is)
  (case ld_c_PikeError_init => k_is)
  (case hv_c_PikeError_init => rfl)
  (case hf_c_PikeError_init => first | rfl | decide +kernel)
  (case at_c_BadFact_init => k_is)
  (case lk_c_BadFact_init => k_is)
  (case cdk_c_BadFact_init => k_is)
  (case kf_c_BadFact_init => k_is)
  (case tyf_c_BadFact_init => k_is)
  (case fnf_c_BadFact_init => k_is)
  (case lc_c_BadFact_init => k_is)
  (case ld_c_BadFact_init => k_is)
  (case hv_c_BadFact_init => rfl)
  (case hf_c_BadFact_init => first | rfl | decide +kernel)
  (case at_c_BadPage_init => k_is)
  (case lk_c_BadPage_init => k_is)
  (case cdk_c_BadPage_init => k_is)
  (case kf_c_BadPage_init => k_is)
  (case tyf_c_BadPage_init => k_is)
  (case fnf_c_BadPage_init => k_is)
  (case lc_c_BadPage_init => k_is)
  (case ld_c_BadPage_init => k_is)
  (case hv_c_BadPage_init => rfl)
  (case hf_c_BadPage_init => first | rfl | decide +kernel)
  (case cl_BadFact => k_is)
  (case rf_BadFact => decide +kernel)
  (case kn_BadFact => rfl)
  (case sa_BadFact => k_is)
  (case ex_BadFact => k_is)
  (case ty_BadFact => k_is)
  (case kp_BadFact => k_is)
  (case ga_BadFact => k_is)
  (case gg_BadFact => k_is)
  (case ic_BadFact => k_is)
  (case ca_BadFact => k_is)
  (case ob_BadFact => k_is)
  (case cn_BadFact => k_is)
  (case icb_BadFact => k_is)
  (case mr_BadFact => k_is)
  (case si_BadFact => ks_is)
  (case sb_BadFact => k_is)
  (case noc_BadFact => k_is)
  (case hd_BadFact => k_is)
  (case ss_BadFact => first | rfl | k_is)
  (case ini_BadFact => k_is)
  (case mrs_BadFact => k_is)
  (case sos_BadFact => ks_is)
  (case nof_BadFact => k_is)
  (case cl_BadPage => k_is)
  (case rf_BadPage => decide +kernel)
  (case kn_BadPage => rfl)
  (case sa_BadPage => k_is)
  (case ex_BadPage => k_is)
  (case ty_BadPage => k_is)
  (case kp_BadPage => k_is)
  (case ga_BadPage => k_is)
  (case gg_BadPage => k_is)
  (case ic_BadPage => k_is)
  (case ca_BadPage => k_is)
  (case ob_BadPage => k_is)
  (case cn_BadPage => k_is)
  (case icb_BadPage => k_is)
  (case mr_BadPage => k_is)
  (case si_BadPage => ks_is)
  (case sb_BadPage => k_is)
  (case noc_BadPage => k_is)
  (case hd_BadPage => k_is)
  (case ss_BadPage => first | rfl | k_is)
  (case ini_BadPage => k_is)
  (case mrs_BadPage => k_is)
  (case sos_BadPage => ks_is)
  (case nof_BadPage => k_is)
  (case cl_Full => k_is)
  (case rf_Full => decide +kernel)
  (case kn_Full => rfl)
  (case sa_Full => k_is)
  (case ex_Full => k_is)
  (case ty_Full => k_is)
  (case kp_Full => k_is)
  (case ga_Full => k_is)
  (case gg_Full => k_is)
  (case ic_Full => k_is)
  (case ca_Full => k_is)
  (case ob_Full => k_is)
  (case cn_Full => k_is)
  (case icb_Full => k_is)
  (case mr_Full => k_is)
  (case si_Full => ks_is)
  (case sb_Full => k_is)
  (case noc_Full => k_is)
  (case hd_Full => k_is)
  (case ss_Full => first | rfl | k_is)
  (case ini_Full => k_is)
  (case ssx_BadFact_Full => k_is)
  (case ssx_Full_BadFact => k_is)
  (case a_Roll => k_is)
  (case pg_Roll => k_is)
  (case hd_Roll => k_is)
  (case po_Roll => k_is)
  (case sa_Roll => k_is)
  (case kp_Roll => k_is)
  (case mki_Roll => k_is)
  (case ob_Roll => k_is)
  (case ic_Roll => k_is)
  (case tm_Roll => k_is)
  (case nfo_Roll => k_is)
  (case clo_Roll => k_is)
  (case gto_Roll => k_is)
  (case tko_Roll => k_is)
  (case na_Roll_states => k_is)
  (case na_Roll_undone => k_is)
  (case sk_Roll_int => k_is)
  (case at_c_Roll_init => k_is)
  (case fn_c_Roll_init => k_is)
  (case lk_c_Roll_init => k_is)
  (case cd_ok_c_Roll_init => k_is)
  (case kf_c_Roll_init => k_is)
  (case at_c_Roll_enter => k_is)
  (case fn_c_Roll_enter => k_is)
  (case lk_c_Roll_enter => k_is)
  (case cd_ok_c_Roll_enter => k_is)
  (case kf_c_Roll_enter => k_is)
  (case at_c_Roll_tell => k_is)
  (case fn_c_Roll_tell => k_is)
  (case lk_c_Roll_tell => k_is)
  (case cd_ok_c_Roll_tell => k_is)
  (case kf_c_Roll_tell => k_is)
  (case at_c_Roll_facts => k_is)
  (case fn_c_Roll_facts => k_is)
  (case lk_c_Roll_facts => k_is)
  (case cd_ok_c_Roll_facts => k_is)
  (case kf_c_Roll_facts => k_is)
namespace Q
open PySem L2 Z


local macro_rules | `(tactic| walk_at "z0") => `(tactic| try dsimp only [L2.cxOf, L2.Cx.nox, L2.Cx.wish])
local macro_rules | `(tactic| walk_at "zside") => `(tactic| first
  | decide | omega | exact ⟨by omega, by omega⟩ | exact Or.inr ⟨by omega, by omega⟩ | exact Or.inl ⟨by omega, by omega⟩ | exact ⟨by decide, by decide⟩ | exact ⟨by decide, by decide, by decide⟩ | (dsimp only; omega))
local macro_rules | `(tactic| walk_at "zex") => `(tactic| first | assumption | exact Ex.refl | (refine Ex.trans ?_ (by assumption); walk_at "zex"))
local macro_rules | `(tactic| walk_at "zbag") => `(tactic| first | assumption | (apply Bag.ext; assumption; walk_at "zex"))
local macro_rules | `(tactic| walk_at "zne") => `(tactic| first | assumption | exact Ne.symm (by assumption) | (apply neb_of; assumption; walk_at "zbag") | (apply nec_of; assumption; walk_at "zbag"))
local macro_rules | `(tactic| walk_at "zhp") => `(tactic| first | assumption | exact upd_same | (refine upd_at ?_ ?_; (focus (walk_at "zne")); walk_at "zhp") | (apply ex_at; assumption; walk_at "zhp") | (apply fr_at; assumption; (focus (walk_at "zne")); walk_at "zhp"))
local macro_rules | `(tactic| walk_at "zkb") => `(tactic| first | with_reducible exact kb_int_tuple | with_reducible exact kb_int_list | with_reducible exact kb_int_bool | with_reducible exact kb_int_int | with_reducible exact kb_str_tuple | with_reducible exact kb_str_list | with_reducible exact kb_str_bool | with_reducible exact kb_str_int | with_reducible exact kb_bool_tuple | with_reducible exact kb_bool_list | with_reducible exact kb_bool_bool | with_reducible exact kb_bool_int | with_reducible exact kb_NoneType_tuple | with_reducible exact kb_NoneType_list | with_reducible exact kb_NoneType_bool | with_reducible exact kb_NoneType_int | with_reducible exact kb_tuple_tuple | with_reducible exact kb_tuple_list | with_reducible exact kb_tuple_bool | with_reducible exact kb_tuple_int | with_reducible exact kb_list_tuple | with_reducible exact kb_list_list | with_reducible exact kb_list_bool | with_reducible exact kb_list_int)
local macro_rules | `(tactic| walk_at "zsz") => `(tactic| first | exact sz (by decide) | exact sz (by simp) | exact sz (by omega))
local macro_rules | `(tactic| walk_at "zex") => `(tactic| first | assumption | exact Ex.refl | (refine Ex.trans ?_ (by assumption); walk_at "zex"))
local macro_rules | `(tactic| walk_at "zsL") => `(tactic| first | exact SqL.of (by walk_at "zhp") | assumption | (apply sqL_ex; assumption; walk_at "zex"))
local macro_rules | `(tactic| walk_at "zsT") => `(tactic| first | exact SqT.of (by walk_at "zhp") | assumption | (apply sqT_ex; assumption; walk_at "zex"))
local macro_rules | `(tactic| walk_at "zsq") => `(tactic| first | walk_at "zsL" | walk_at "zsT" | (apply Or.inl; walk_at "zsL") | (apply Or.inr; walk_at "zsT"))
local macro_rules | `(tactic| walk_at "zty") => `(tactic| first | assumption | exact .base (.int _) | exact .base (.bl _) | exact .base (.str _) | exact .base .non | exact ty_sqT (by walk_at "zsq") | exact ty_sqL (by walk_at "zsq"))
local macro_rules | `(tactic| walk_at "zbag") => `(tactic| first | assumption | (apply Bag.ext; assumption; walk_at "zex"))
local macro_rules | `(tactic| walk_at "zpull") => `(tactic| (apply use_pull; (focus (walk_at "zbag")); (focus (first | exact ⟨by decide, by decide⟩ | exact ⟨by omega, by omega⟩ | (exact ⟨by simp; omega, by simp; omega⟩))); intro _ _ _ _ _ _))
local macro_rules | `(tactic| walk_at "zin") => `(tactic| repeat (first | exact intIn_nil | (refine intIn_cons ⟨?_, ?_⟩ ?_; (focus omega); (focus omega)) | (refine intIn_cons ?_ ?_; (focus (first | assumption | exact ⟨by omega, by omega⟩)))))
local macro_rules | `(tactic| walk_at "zfr") => `(tactic| first | assumption | exact Fr.refl | (refine Fr.trans ?_ (by assumption); walk_at "zfr") | (refine Fr.trans ?_ (Ex.fr _ (by assumption)); walk_at "zfr"))
local macro_rules | `(tactic| walk_at "zdp") => `(tactic| repeat' (first | exact DpAll.nil | apply DpAll.cons | exact Dp.int _ | exact Dp.str _ | exact Dp.bl _ | exact Dp.non | assumption))
local macro_rules | `(tactic| walk_at "zR") => `(tactic| first | assumption | exact ⟨by omega, by omega⟩)
local macro_rules | `(tactic| walk_at "z1") => `(tactic| first
  | ((with_reducible apply s_var); exact rfl)
  | with_reducible refine s_C ?_
  | with_reducible refine s_op ?_
  | ((with_reducible apply s_rI); (focus (walk_at "zside")))
  | with_reducible refine s_rI0 ?_
  | with_reducible refine s_rEqI ?_
  | with_reducible refine s_rNeI ?_
  | with_reducible refine s_rEqS ?_
  | with_reducible refine s_rNeS ?_
  | with_reducible refine s_rEqB ?_
  | with_reducible refine s_rNeB ?_
  | ((with_reducible apply s_ixL); (focus (walk_at "zsq")); (focus (exact rfl)))
  | ((with_reducible apply s_ixT); (focus (walk_at "zsq")); (focus (exact rfl)))
  | ((with_reducible apply s_rLen); (focus (walk_at "zsq")))
  | with_reducible refine s_rAbs ?_
  | with_reducible refine s_rMax2 ?_
  | with_reducible refine s_rMin2 ?_
  | with_reducible refine s_rInt1 ?_
  | with_reducible refine s_rIntB ?_
  | with_reducible refine s_rIsN ?_
  | with_reducible refine s_rNotN ?_
  | with_reducible refine s_rFind ?_
  | ((with_reducible apply s_newS); (focus (walk_at "zsz")); intro _ _ _ _ _)
  | ((with_reducible apply s_new); intro _ _ _ _ _)
  | ((with_reducible apply s_slL); (focus (walk_at "zsq")))
  | ((with_reducible apply s_isi); (focus (walk_at "zty")); (focus (walk_at "zkb")))
  | ((with_reducible apply s_isiTL); (focus (walk_at "zhp")); (focus (walk_at "zty")); (focus (walk_at "zkb")); (focus (walk_at "zkb")))
  | ((with_reducible apply s_rListOf); (focus (walk_at "zsq")))
  | ((with_reducible apply s_rTupleOf); (focus (walk_at "zsq")))
  | ((with_reducible apply s_rDivmod); (focus (walk_at "zside")))
  | ((with_reducible apply s_rRjust); (focus (exact rfl)))
  | ((with_reducible apply s_rEq); (focus (exact rfl)))
  | ((with_reducible apply s_rNe); (focus (exact rfl)))
  | with_reducible refine s_tB ?_
  | with_reducible refine s_tTest ?_
  | with_reducible refine s_bl ?_
  | with_reducible refine s_nil ?_
  | with_reducible refine s_cons ?_
  | with_reducible refine s_CB ?_
  | with_reducible refine s_call ?_
  | walk_at "zpull"
  | ((with_reducible apply use_int); (focus (walk_at "zbag")); intro _ _ _ _ _ _)
  | with_reducible refine s_seq ?_
  | ((with_reducible refine s_set ?_); try dsimp only [List.set_cons_zero, List.set_cons_succ])
  | with_reducible refine s_ifS ?_
  | with_reducible refine s_ret ?_
  | with_reducible refine s_drop ?_
  | with_reducible refine s_next ?_
  | with_reducible refine s_and ?_
  | with_reducible refine s_or ?_
  | with_reducible refine s_not ?_
  | with_reducible refine s_andV ?_
  | with_reducible refine s_orV ?_
  | with_reducible refine s_notV ?_
  | with_reducible refine s_ifE ?_
  | with_reducible refine s_un ?_
  | with_reducible refine s_rU ?_
  | with_reducible refine s_chain ?_
  | with_reducible refine s_tup ?_
  | with_reducible refine s_lst ?_
  | with_reducible refine s_sl ?_
  | with_reducible refine s_noPart ?_
  | with_reducible refine s_part ?_
  | with_reducible refine s_partI ?_
  | ((with_reducible refine s_gName ?_); try dsimp only [List.set_cons_zero, List.set_cons_succ])
  | with_reducible refine s_gSub ?_
  | ((with_reducible apply s_gTup); (focus (walk_at "zsq")); (focus (exact rfl)))
  | with_reducible refine s_gCons ?_
  | with_reducible refine s_gNil ?_
  | with_reducible refine s_asg ?_
  | with_reducible refine s_par ?_
  | ((with_reducible refine s_parI ?_); try dsimp only [List.set_cons_zero, List.set_cons_succ])
  | with_reducible refine s_fld ?_
  | with_reducible refine s_bm ?_
  | with_reducible refine s_bm0 ?_
  | with_reducible refine s_m0 ?_
  | with_reducible refine s_m1 ?_
  | with_reducible refine s_for ?_
  | with_reducible refine s_iRng1 ?_
  | with_reducible refine s_iRng2 ?_
  | with_reducible refine s_iList ?_
  | with_reducible refine s_iTup ?_
  | with_reducible refine s_iStr ?_
  | with_reducible refine s_iEnum ?_
  | with_reducible refine ite_t ?_
  | with_reducible refine ite_f ?_
  | with_reducible refine s_isStr ?_
  | with_reducible refine s_callS ?_
  | with_reducible refine s_rNotInS ?_
  | with_reducible refine s_rInS ?_
  | with_reducible refine s_tFmt ?_
  | with_reducible refine s_tFS ?_
  | with_reducible refine s_jsNil ?_
  | with_reducible refine s_jsCons ?_
  | with_reducible refine s_tRevL ?_
  | ((with_reducible apply s_revV); (focus (walk_at "zsq")))
  | with_reducible refine s_tyS ?_
  | ((with_reducible apply s_tyL); (focus (walk_at "zsq")))
  | ((with_reducible apply s_rRjust2); (focus (exact ⟨by decide, by decide⟩)))
  | with_reducible refine s_lc ?_
  | with_reducible refine s_yes ?_
  | ((with_reducible apply ite_fE); (focus (exact rfl)))
  | ((with_reducible apply ite_tE); (focus (exact rfl))))
local macro_rules | `(tactic| walk_at "z") => `(tactic| repeat (walk_at "z1"))

section
variable {P : Program} {w : World} {K : PySem.W.Frag} {mg : Str → Option Value} {base : Heap}
/-! own exceptions: what their __init__ leave -/
theorem sc_c_PikeError_init : NdefX.NScope ["self", "reason", "__class__"] ["self", "reason"] ["__class__"] (defScope s_c_PikeError_init) := NdefX.nscope_by (by decide +kernel)
theorem ok_c_PikeError_init (T : Tx P K mg w) : FnOk P w K mg base CX0 1 T.f_c_PikeError_init T.d_c_PikeError_init ["self", "reason"] (spPike K T.C_PikeError) := by
  refine T.FS_c_PikeError_init.ok (N := ["self", "reason", "__class__"]) (k := 0) rfl sc_c_PikeError_init (fun vs H Q E h => ?_) (fun A outer s H vs Q E hr h => ?_)
  · obtain ⟨a, C, nm, v, rfl, _⟩ := h
    rfl
  · obtain ⟨a, C, nm, v, rfl, ea, T1, k⟩ := h
    refine ⟨_, _, ps_supB (T.FS_c_PikeError_init.sup (sf := "self") (i := 0) (j := 2) rfl rfl rfl rfl rfl rfl) (pa_cons (pv 1) pa_nil), pss_one (ps_osX (pv 0) (pe_cnm (pv 0))), ?_⟩
    refine ⟨a, C, _, false, rfl, rfl, ea, T1.ox, T1.sc, T1.si, T1.sb, ?_⟩
    refine ⟨v, rfl, by show 1 ≤ 1000; decide, ea, ?_⟩
    refine ⟨.ref a, rfl, a, C, nm, rfl, ea, T1.nc, ?_⟩
    exact ⟨.ref a, rfl, a, C, false, rfl, T1.ox, T1.no, .inl ⟨ea, fun dx n ne => k dx n ne⟩⟩
theorem sc_c_BadFact_init : NdefX.NScope ["self", "place", "__class__"] ["self", "place"] ["__class__"] (defScope s_c_BadFact_init) := NdefX.nscope_by (by decide +kernel)
theorem ok_c_BadFact_init (T : Tx P K mg w) : FnOk P w K mg base CX0 2 T.f_c_BadFact_init T.d_c_BadFact_init ["self", "place"] (spPlace K T.C_PikeError T.C_BadFact T.f_c_PikeError_init "place") := by
  refine T.FS_c_BadFact_init.ok (N := ["self", "place", "__class__"]) (k := 1) rfl sc_c_BadFact_init (fun vs H Q E h => ?_) (fun A outer s H vs Q E hr h => ?_)
  · obtain ⟨a, C, nm, n, rfl, _⟩ := h
    rfl
  · obtain ⟨a, C, nm, n, rfl, ea, T1, sc, so, hno, hz, k⟩ := h
    have hn := PyProof.Rows.int_text_len_1921 hz
    refine ⟨_, _, ps_supO (T.FS_c_BadFact_init.sup (sf := "self") (i := 0) (j := 2) rfl rfl rfl rfl rfl rfl) ((ok_c_PikeError_init T).raw T.b_c_PikeError_init .nil) hr pass0 T.FS_c_PikeError_init.ty T.FS_c_PikeError_init.fn (pa_cons (pz_fstr (PJ.cons pe_str (PJ.cons (pe_fmt (pv 1)) (PJ.cons pe_str PJ.nil)))) pa_nil), pss_one (ps_osX (pv 0) (pv 1)), ?_⟩
    refine ⟨a, C, _, rfl, rfl, ea, sc, so, ?_⟩
    walk_at "z"
    refine s_jsV (by rw [Str_len_app]; exact sz (by decide +kernel)) ?_
    walk_at "z"
    refine s_fmtI hz ?_
    refine s_jsV (by rw [Str_len_app, Str_len_app, show Str.empty.length + (Str.ofString "no good fact: place ").length = 20 from by decide +kernel]; exact sz (by omega)) ?_
    walk_at "z"
    refine s_jsV (by rw [Str_len_app, Str_len_app, Str_len_app, show Str.empty.length + (Str.ofString "no good fact: place ").length = 20 from by decide +kernel, show (Str.ofString " is wrong").length = 9 from by decide +kernel]; exact sz (by omega)) ?_
    walk_at "z"
    refine ⟨a, C, nm, _, rfl, ea, T1, fun dx n1 ne => ?_⟩
    refine ⟨.int n, rfl, .ref a, rfl, a, C, false, rfl, T1.ox, hno, .inr ⟨dx, _, upd_same, ?_, by show 1 ≤ 900; decide, k dx n1 ne⟩⟩
    rw [upd_ne ne, upd_same]

/-! BadPage; own exceptions made where another is handled -/
theorem sc_c_BadPage_init : NdefX.NScope ["self", "row", "__class__"] ["self", "row"] ["__class__"] (defScope s_c_BadPage_init) := NdefX.nscope_by (by decide +kernel)
theorem ok_c_BadPage_init (T : Tx P K mg w) : FnOk P w K mg base CX0 2 T.f_c_BadPage_init T.d_c_BadPage_init ["self", "row"] (spPlace K T.C_PikeError T.C_BadPage T.f_c_PikeError_init "row") := by
  refine T.FS_c_BadPage_init.ok (N := ["self", "row", "__class__"]) (k := 1) rfl sc_c_BadPage_init (fun vs H Q E h => ?_) (fun A outer s H vs Q E hr h => ?_)
  · obtain ⟨a, C, nm, n, rfl, _⟩ := h
    rfl
  · obtain ⟨a, C, nm, n, rfl, ea, T1, sc, so, hno, hz, k⟩ := h
    have hn := PyProof.Rows.int_text_len_1921 hz
    refine ⟨_, _, ps_supO (T.FS_c_BadPage_init.sup (sf := "self") (i := 0) (j := 2) rfl rfl rfl rfl rfl rfl) ((ok_c_PikeError_init T).raw T.b_c_PikeError_init .nil) hr pass0 T.FS_c_PikeError_init.ty T.FS_c_PikeError_init.fn (pa_cons (pz_fstr (PJ.cons pe_str (PJ.cons (pe_fmt (pv 1)) (PJ.cons pe_str PJ.nil)))) pa_nil), pss_one (ps_osX (pv 0) (pv 1)), ?_⟩
    refine ⟨a, C, _, rfl, rfl, ea, sc, so, ?_⟩
    walk_at "z"
    refine s_jsV (by rw [Str_len_app]; exact sz (by decide +kernel)) ?_
    walk_at "z"
    refine s_fmtI hz ?_
    refine s_jsV (by rw [Str_len_app, Str_len_app, show Str.empty.length + (Str.ofString "no good page: row ").length = 18 from by decide +kernel]; exact sz (by omega)) ?_
    walk_at "z"
    refine s_jsV (by rw [Str_len_app, Str_len_app, Str_len_app, show Str.empty.length + (Str.ofString "no good page: row ").length = 18 from by decide +kernel, show (Str.ofString " is wrong").length = 9 from by decide +kernel]; exact sz (by omega)) ?_
    walk_at "z"
    refine ⟨a, C, nm, _, rfl, ea, T1, fun dx n1 ne => ?_⟩
    refine ⟨.int n, rfl, .ref a, rfl, a, C, false, rfl, T1.ox, hno, .inr ⟨dx, _, upd_same, ?_, by show 1 ≤ 900; decide, k dx n1 ne⟩⟩
    rw [upd_ne ne, upd_same]
theorem okH_c_PikeError_init (T : Tx P K mg w) : L2H.FnH P w K mg base CX0 1 T.f_c_PikeError_init T.d_c_PikeError_init ["self", "reason"] (spPike K T.C_PikeError) := by
  refine L2H.okH T.FS_c_PikeError_init (N := ["self", "reason", "__class__"]) (k := 0) rfl sc_c_PikeError_init (fun vs H Q E h => ?_) (fun A outer s H vs Q E p hot hr h => ?_)
  · obtain ⟨a, C, nm, v, rfl, _⟩ := h
    rfl
  · obtain ⟨a, C, nm, v, rfl, ea, T1, k⟩ := h
    refine ⟨_, _, ps_supB (L2H.supH T.FS_c_PikeError_init (sf := "self") (i := 0) (j := 2) rfl rfl rfl rfl rfl rfl) (pa_cons (pv 1) pa_nil), pss_one (ps_osX (pv 0) (pe_cnm (pv 0))), ?_⟩
    refine ⟨a, C, _, false, rfl, rfl, ea, T1.ox, T1.sc, T1.si, T1.sb, ?_⟩
    refine ⟨v, rfl, by show 1 ≤ 1000; decide, ea, ?_⟩
    refine ⟨.ref a, rfl, a, C, nm, rfl, ea, T1.nc, ?_⟩
    exact ⟨.ref a, rfl, a, C, false, rfl, T1.ox, T1.no, .inl ⟨ea, fun dx n ne => k dx n ne⟩⟩
theorem okH_c_BadPage_init (T : Tx P K mg w) : L2H.FnH P w K mg base CX0 2 T.f_c_BadPage_init T.d_c_BadPage_init ["self", "row"] (spPlace K T.C_PikeError T.C_BadPage T.f_c_PikeError_init "row") := by
  refine L2H.okH T.FS_c_BadPage_init (N := ["self", "row", "__class__"]) (k := 1) rfl sc_c_BadPage_init (fun vs H Q E h => ?_) (fun A outer s H vs Q E p hot hr h => ?_)
  · obtain ⟨a, C, nm, n, rfl, _⟩ := h
    rfl
  · obtain ⟨a, C, nm, n, rfl, ea, T1, sc, so, hno, hz, k⟩ := h
    have hn := PyProof.Rows.int_text_len_1921 hz
    refine ⟨_, _, L2H.ps_supOH (L2H.supH T.FS_c_BadPage_init (sf := "self") (i := 0) (j := 2) rfl rfl rfl rfl rfl rfl) (okH_c_PikeError_init T) hr ⟨p, ⟨hot.1, hot.2⟩, List.mem_cons_self⟩ T.b_c_PikeError_init pass0 T.FS_c_PikeError_init.ty T.FS_c_PikeError_init.fn (pa_cons (pz_fstr (PJ.cons pe_str (PJ.cons (pe_fmt (pv 1)) (PJ.cons pe_str PJ.nil)))) pa_nil), pss_one (ps_osX (pv 0) (pv 1)), ?_⟩
    refine ⟨a, C, _, rfl, rfl, ea, sc, so, ?_⟩
    walk_at "z"
    refine s_jsV (by rw [Str_len_app]; exact sz (by decide +kernel)) ?_
    walk_at "z"
    refine s_fmtI hz ?_
    refine s_jsV (by rw [Str_len_app, Str_len_app, show Str.empty.length + (Str.ofString "no good page: row ").length = 18 from by decide +kernel]; exact sz (by omega)) ?_
    walk_at "z"
    refine s_jsV (by rw [Str_len_app, Str_len_app, Str_len_app, show Str.empty.length + (Str.ofString "no good page: row ").length = 18 from by decide +kernel, show (Str.ofString " is wrong").length = 9 from by decide +kernel]; exact sz (by omega)) ?_
    walk_at "z"
    refine ⟨a, C, nm, _, rfl, ea, T1, fun dx n1 ne => ?_⟩
    refine ⟨.int n, rfl, .ref a, rfl, a, C, false, rfl, T1.ox, hno, .inr ⟨dx, _, upd_same, ?_, by show 1 ≤ 900; decide, k dx n1 ne⟩⟩
    rw [upd_ne ne, upd_same]

theorem sc_l_pull : FnScope ["_law_bag_here", "_law_amount", "_law_cell", "_law_got", "_law_seed"] ["_law_bag_here", "_law_amount"] (defScope s_l_pull) :=
  ⟨rfl, rfl, rfl, by decide +kernel, rfl, by decide +kernel, by decide +kernel⟩
theorem ok_l_pull (T : Tx P K mg w) : FnOk P w K mg base CX0 1 T.f_l_pull T.d_l_pull ["_law_bag_here", "_law_amount"] spPull := by
  refine T.F_l_pull.ok sc_l_pull (fun vs H Q E h => ?_) (fun cdv A outer s H vs Q E hr h => ?_)
  · obtain ⟨b, c, n, rfl, _⟩ := h
    rfl
  · obtain ⟨b, c, n, rfl, B, n0, n1, k⟩ := h
    have cb : c ≠ b := B.cb
    obtain ⟨cells, i, big, salt, hb, hc, hi, hg, hs0, hs1⟩ := B.ex
    refine ⟨_, (Evl.pss_cut (ps_if (PW.pt (pw_and (pt_cmpR op_eq (pe_ix (r := rIxL K) ix_list (pv 0) pe_int (fun _ _ => rfl)) pe_int (nomark _)) (pw_and1 (pt_cmpR op_lt (pe_ix (r := rIxL K) ix_list (pv 0) pe_int (fun _ _ => rfl)) (pe_callB (r := Z.rLen K) cz_len (by rfl) T.z_len PySem.boot_len (pa_cons (pe_ix (r := rIxL K) ix_list (pv 0) pe_int (fun _ _ => rfl)) pa_nil)) (nomark _))))) (pss_cons (ps_set (i := 2) sc_l_pull.nd rfl (Or.inl rfl) (pe_ix (r := rIxL K) ix_list (pe_ix (r := rIxL K) ix_list (pv 0) pe_int (fun _ _ => rfl)) (pe_ix (r := rIxL K) ix_list (pv 0) pe_int (fun _ _ => rfl)) (fun _ _ => rfl))) (pss_cons (ps_asg (pe_op op_add (pe_ix (r := rIxL K) ix_list (pv 0) pe_int (fun _ _ => rfl)) pe_int) (pg_sub (pv 0) pe_int set_list)) (pss_one (ps_if (pt_cmpR op_ge (pv 2) (pe_op op_pow pe_int pe_int) (nomark _)) (pss_one (ps_asg (pv 2) (pg_sub (pv 0) pe_int set_list))) (pss_one (ps_asg (pe_op op_mod (pe_op op_add (pe_op op_add (pe_op op_mul (pe_ix (r := rIxL K) ix_list (pv 0) pe_int (fun _ _ => rfl)) pe_int) (pe_op op_mul (pe_op op_mod (pv 2) pe_int) pe_int)) pe_int) pe_int) (pg_sub (pv 0) pe_int set_list))))))) pss_nil) (pss_cons (ps_if (pt_cmpR op_gt (pe_ix (r := rIxL K) ix_list (pv 0) pe_int (fun _ _ => rfl)) pe_int (nomark _)) (pss_cons (ps_set (i := 3) sc_l_pull.nd rfl (Or.inl rfl) (pe_op op_mod (pe_ix (r := rIxL K) ix_list (pv 0) pe_int (fun _ _ => rfl)) (pv 1))) (pss_cons (ps_asg (pe_op op_fdivW (pe_ix (r := rIxL K) ix_list (pv 0) pe_int (fun _ _ => rfl)) (pv 1)) (pg_sub (pv 0) pe_int set_list)) (pss_one (ps_ret (pv 3))))) pss_nil) (pss_cons (ps_set (i := 4) sc_l_pull.nd rfl (Or.inl rfl) (pe_ix (r := rIxL K) ix_list (pv 0) pe_int (fun _ _ => rfl))) (pss_cons (ps_asg (pe_op op_mod (pe_op op_add (pe_op op_add (pe_op op_mul (pv 4) pe_int) (pe_op op_mul (pe_op op_fdiv (pv 4) pe_int) pe_int)) pe_int) pe_int) (pg_sub (pv 0) pe_int set_list)) (pss_one (ps_ret (pe_op op_mod (pe_op op_add (pe_op op_fdiv (pe_ix (r := rIxL K) ix_list (pv 0) pe_int (fun _ _ => rfl)) pe_int) (pe_op op_mul (pe_op op_mod (pe_ix (r := rIxL K) ix_list (pv 0) pe_int (fun _ _ => rfl)) pe_int) pe_int)) (pv 1)))))))), ?_⟩
    refine at_start (ρ' := [some _, some _, none, none, none]) rfl ?_
    walk_at "z0"
    refine s_cut (fun ρ H' => ∃ v, ρ = [some (.ref b), some (.int n), v, none, none] ∧ Bag H' b c ∧ Fr b H H') ?_ ?_
    · walk_at "z"
      refine ite_dec (fun h0 => ?_) (fun h0 => ?_)
      · walk_at "z"
        refine ite_dec (fun h1 => ?_) (fun h1 => ?_)
        · rw [List.length_map] at h1
          have h2 : i < cells.length := by omega
          walk_at "z"
          refine s_ixL (SqL.of hc) (atI_nat (v := .int (cells[i])) (by rw [List.getElem?_map, List.getElem?_eq_getElem h2]; rfl)) ?_
          walk_at "z"
          refine s_setN hb (m := 1) rfl [.ref c, .int ((i + 1 : Nat) : Int), .int big, .int salt] rfl fun H1 e1 hb1 => ?_
          have hc1 := e1 _ _ cb hc
          walk_at "z"
          refine ite_dec (fun h3 => ?_) (fun h3 => ?_)
          · walk_at "z"
            refine s_setN hb1 (m := 2) rfl [.ref c, .int ((i + 1 : Nat) : Int), .int (cells[i]), .int salt] rfl fun H2 e2 hb2 => ?_
            have h3 : (10 : Int) ^ 18 ≤ cells[i] := h3
            exact ⟨_, rfl, .mk' hb2 (e2 _ _ cb hc1) h2 (by omega) ⟨hs0, hs1⟩, e1.trans e2⟩
          · walk_at "z"
            refine s_setN hb1 (m := 3) rfl [.ref c, .int ((i + 1 : Nat) : Int), .int big, .int _] rfl fun H2 e2 hb2 => ?_
            exact ⟨_, rfl, .mk' hb2 (e2 _ _ cb hc1) h2 hg ⟨Int.emod_nonneg _ (by decide), Int.emod_lt_of_pos _ (by decide)⟩, e1.trans e2⟩
        · walk_at "z"
          exact ⟨_, rfl, B, Fr.refl⟩
      · walk_at "z"
        exact ⟨_, rfl, B, Fr.refl⟩
    · rintro ρ H1 ⟨v, rfl, B1, e1⟩
      obtain ⟨cells, i, big, salt, hb, hc, hi, hg, hs0, hs1⟩ := B1.ex
      walk_at "z"
      refine ite_dec (fun h0 => ?_) (fun h0 => ?_)
      · walk_at "z"
        refine s_rI (wide_div n0 (b := 200) (by omega) (by decide) (by decide)) ?_
        walk_at "z"
        refine s_setN hb (m := 2) rfl [.ref c, .int (i : Int), .int (big / n), .int salt] rfl fun H2 e2 hb2 => ?_
        walk_at "z"
        exact k _ _ (Int.emod_nonneg _ (by omega)) (Int.emod_lt_of_pos _ n0) (.mk' hb2 (e2 _ _ cb hc) hi (Int.ediv_nonneg hg (by omega)) ⟨hs0, hs1⟩) (e1.trans e2)
      · walk_at "z"
        refine s_setN hb (m := 3) rfl [.ref c, .int (i : Int), .int big, .int _] rfl fun H2 e2 hb2 => ?_
        walk_at "z"
        exact k _ _ (Int.emod_nonneg _ (by omega)) (Int.emod_lt_of_pos _ n0) (.mk' hb2 (e2 _ _ cb hc) hi hg ⟨Int.emod_nonneg _ (by decide), Int.emod_lt_of_pos _ (by decide)⟩) (e1.trans e2)

theorem sc_l_bag : FnScope ["_law_script", "_law_salt", "_law_cell"] ["_law_script"] (defScope s_l_bag) :=
  ⟨rfl, rfl, rfl, by decide +kernel, rfl, by decide +kernel, by decide +kernel⟩
theorem ok_l_bag (T : Tx P K mg w) : FnOk P w K mg base CX0 1 T.f_l_bag T.d_l_bag ["_law_script"] (spBag K) := by
  refine T.F_l_bag.ok sc_l_bag (fun vs H Q E h => ?_) (fun cdv A outer s H vs Q E hr h => ?_)
  · obtain ⟨a, ns, rfl, _⟩ := h
    rfl
  · obtain ⟨a, ns, rfl, hS, hl, k⟩ := h
    refine ⟨_, (pss_cons (ps_set (i := 1) sc_l_bag.nd rfl (Or.inl rfl) pe_int) (pss_cons (ps_for PassesOwn.never rfl (pi_list (pe_slice (r := rSlL K) sl_list (pv 0) po_none (po_some pe_int))) (pg_name (i := 2) sc_l_bag.nd rfl (Or.inl rfl)) (pss_one (ps_set (i := 1) sc_l_bag.nd rfl (Or.inl rfl) (pe_op op_mod (pe_op op_add (pe_op op_add (pe_op op_mul (pv 1) pe_int) (pe_op op_mod (pv 2) pe_int)) pe_int) pe_int)))) (pss_one (ps_ret (pe_lst (pa_cons (pe_callTy (r := rListOf K) cz_listOf (by rfl) T.z_list (by decide +kernel) (pa_cons (pe_slice (r := rSlL K) sl_list (pv 0) po_none (po_some pe_int)) pa_nil)) (pa_cons pe_int (pa_cons pe_int (pa_cons (pv 1) pa_nil))))))))), ?_⟩
    refine at_start (ρ' := [some _, none, none]) rfl ?_
    walk_at "z0"
    walk_at "z"
    rename_i p H1 _ e1 hp
    rw [cut63 (by rw [List.length_map]; exact hl)] at hp
    refine l_list (ns.map V.int) (fun i σ H' => ∃ (z : Int) (v : Option V), σ = [some (.ref a), some (.int z), v] ∧ H' = H1 ∧ 0 ≤ z ∧ z < 2147483647) ⟨977, none, rfl, rfl, by decide, by decide⟩ (fun i σ H' _ h => by
      obtain ⟨_, _, _, rfl, _⟩ := h
      exact .of hp) (fun i x σ H' hx h => ?_) (fun σ H' h => ?_)
    · obtain ⟨z, v, rfl, rfl, h0, h1⟩ := h
      obtain ⟨y, rfl⟩ := map_int_get hx
      walk_at "z"
      exact ⟨_, _, rfl, rfl, Int.emod_nonneg _ (by decide), Int.emod_lt_of_pos _ (by decide)⟩
    · obtain ⟨z, v, rfl, rfl, h0, h1⟩ := h
      walk_at "z"
      rename_i q H2 nq e2 hq c H3 nc e3 hc b H4 nb e4 hb
      rw [cut63 (by rw [List.length_map]; exact hl)] at hc
      refine k b c H4 (Ex.back (by walk_at "zex") nb) (Ex.back (by walk_at "zex") nc) (by walk_at "zex") (.mk' (i := 0) hb (e4 _ _ hc) (Nat.zero_le _) (Int.le_refl _) ⟨h0, h1⟩)

theorem sc_l_like : FnScope ["_law_found", "_law_due", "_law_k"] ["_law_found", "_law_due"] (defScope s_l_like) :=
  ⟨rfl, rfl, rfl, by decide +kernel, rfl, by decide +kernel, by decide +kernel⟩
theorem ok_l_like (T : Tx P K mg w) : ∀ n, FnOk P w K mg base CX0 n T.f_l_like T.d_l_like ["_law_found", "_law_due"] (spLike K n)
  | 0 => fnOk_no like_no
  | n + 1 => by
    have IH := ok_l_like T n
    refine T.F_l_like.ok sc_l_like (fun vs H Q E h => ?_) (fun cdv A outer s H vs Q E hr h => ?_)
    · obtain ⟨x, y, d, rfl, _⟩ := h
      rfl
    · obtain ⟨x, y, d, rfl, dx, dy, ok, k⟩ := h
      refine ⟨_, (pss_cons (ps_if (PW.pt (pw_or (pt_cmpR op_ne (pe_callB (r := rIsi K) call_isi (by rfl) T.z_isinstance (by decide +kernel) (pa_cons (pv 1) (pa_cons (pe_bltn (v := .ty "tuple") rfl T.z_tuple (by decide +kernel) rfl) pa_nil))) (pe_callB (r := rIsi K) call_isi (by rfl) T.z_isinstance (by decide +kernel) (pa_cons (pv 0) (pa_cons (pe_bltn (v := .ty "tuple") rfl T.z_tuple (by decide +kernel) rfl) pa_nil))) (nomark _)) (pw_or1 (pt_cmpR op_ne (pe_callB (r := rIsi K) call_isi (by rfl) T.z_isinstance (by decide +kernel) (pa_cons (pv 1) (pa_cons (pe_bltn (v := .ty "list") rfl T.z_list (by decide +kernel) rfl) pa_nil))) (pe_callB (r := rIsi K) call_isi (by rfl) T.z_isinstance (by decide +kernel) (pa_cons (pv 0) (pa_cons (pe_bltn (v := .ty "list") rfl T.z_list (by decide +kernel) rfl) pa_nil))) (nomark _))))) (pss_one (ps_ret pe_bl)) pss_nil) (pss_cons (ps_if (pt_not (pt_val (pe_callB (r := rIsiT K) call_isiT (by rfl) T.z_isinstance (by decide +kernel) (pa_cons (pv 1) (pa_cons (pe_tup (pa_cons (pe_bltn (v := .ty "tuple") rfl T.z_tuple (by decide +kernel) rfl) (pa_cons (pe_bltn (v := .ty "list") rfl T.z_list (by decide +kernel) rfl) pa_nil))) pa_nil))))) (pss_one (ps_ret (pe_and (pe_cmpR op_eq (pe_callB (r := rIsi K) call_isi (by rfl) T.z_isinstance (by decide +kernel) (pa_cons (pv 0) (pa_cons (pe_bltn (v := .ty "bool") rfl T.z_bool (by decide +kernel) rfl) pa_nil))) (pe_callB (r := rIsi K) call_isi (by rfl) T.z_isinstance (by decide +kernel) (pa_cons (pv 1) (pa_cons (pe_bltn (v := .ty "bool") rfl T.z_bool (by decide +kernel) rfl) pa_nil))) (nomark _)) (pe_one (pe_cmpR op_eq (pv 0) (pv 1) (nomark _)))))) pss_nil) (pss_one (ps_ret (pe_and (pe_cmpR op_eq (pe_callB (r := Z.rLen K) cz_len (by rfl) T.z_len PySem.boot_len (pa_cons (pv 0) pa_nil)) (pe_callB (r := Z.rLen K) cz_len (by rfl) T.z_len PySem.boot_len (pa_cons (pv 1) pa_nil)) (nomark _)) (pe_one (pe_callB (r := rAll K) (cr_all rfl) (by rfl) T.z_all (by decide +kernel) (pa_cons (pe_lc (own := [("_law_k", 2)]) (by rfl) sc_l_like.nd (pi_range1 (by rfl) T.z_range (pa_cons (pe_callB (r := Z.rLen K) cz_len (by rfl) T.z_len PySem.boot_len (pa_cons (pv 1) pa_nil)) pa_nil)) (blkOk_by (own := [("_law_k", 2)]) (N := ["_law_found", "_law_due", "_law_k"]) (sc := defScope s_l_like) (by decide +kernel)) (fun _ _ _ _ _ => (pg_name (i := 2) sc_l_like.nd rfl (Or.inl rfl))) (fun _ _ _ _ _ => pts_nil) (fun _ _ _ _ _ => (pe_call IH hr rfl T.g_l_like T.F_l_like.kp T.b_l_like .nil pass0 (pa_cons (pe_ix (r := rIx K) ix_seq (pv 0) (pv 2) (fun _ _ => rfl)) (pa_cons (pe_ix (r := rIx K) ix_seq (pv 1) (pv 2) (fun _ _ => rfl)) pa_nil))))) pa_nil)))))))), ?_⟩
      refine at_start (ρ' := [some _, some _, none]) rfl ?_
      walk_at "z0"
      cases dx with
      | int i =>
        cases dy
        walk_at "z"
        exact ev_blT (by simp) (k _ (by walk_at "zex"))
      | bl i =>
        cases dy
        walk_at "z"
        exact ev_blT (by simp) (k _ (by walk_at "zex"))
      | str i =>
        cases dy
        walk_at "z"
        exact ev_blT (by simp) (k _ (by walk_at "zex"))
      | non =>
        cases dy
        walk_at "z"
        exact ev_blT (by simp) (k _ (by walk_at "zex"))
      | lst hx rx =>
        rename_i a xs ds
        cases dy with
        | lst hy ry =>
        rename_i b ys
        obtain ⟨hlen, hds⟩ := ok
        have l1 := dpAll_len rx
        have l2 := dpAll_len ry
        walk_at "z"
        refine ite_pos (by omega) ?_
        walk_at "z"
        rename_i H1 _ e1 _
        refine c_range (by omega) (fun D H' => H1 D = none ∧ Ex H1 H') (fun D i l H' => l = List.replicate i (.bl true)) (fun D H' n e _ => ⟨⟨n, e⟩, rfl⟩) (fun D i l H2 hi e2 hl hz r => ?_) (fun D l H2 e2 hl hz r => ?_)
        · obtain ⟨nD, e2⟩ := e2
          have i1 : i < xs.length := by omega
          have i2 : i < ys.length := by omega
          have i3 : i < ds.length := by omega
          walk_at "z"
          refine ⟨rfl, ?_⟩
          walk_at "z"
          refine Or.inl ⟨_, _, _, _, rfl, rfl, (Ex.sqL (by walk_at "zex") hx), atI_nat (List.getElem?_eq_getElem i1), ?_⟩
          walk_at "z"
          refine Or.inl ⟨_, _, _, _, rfl, rfl, (Ex.sqL (by walk_at "zex") hy), atI_nat (List.getElem?_eq_getElem i2), ?_⟩
          walk_at "z"
          refine ⟨_, _, ds[i], rfl, dp_ex (by walk_at "zex") (dpAll_get rx (List.getElem?_eq_getElem i1) (List.getElem?_eq_getElem i3)), dp_ex (by walk_at "zex") (dpAll_get ry (List.getElem?_eq_getElem i2) (List.getElem?_eq_getElem i3)), hds _ (List.getElem_mem i3), fun H3 e3 => ?_⟩
          exact c_put (e3 _ _ hl) (by omega) fun H5 f5 _ => ⟨⟨nD, fun q o hq => f5 _ _ (ne_of_none hq nD) (e3 _ _ (e2 _ _ hq))⟩, by rw [r, List.replicate_succ']⟩
        · obtain ⟨nD, e2⟩ := e2
          walk_at "z"
          refine s_rAll (List.replicate ys.length true) (SqL.of hl) (by rw [r, List.map_replicate]; simp) ?_
          exact ev_blT (by simp) (k _ (by walk_at "zex"))
      | tup hx rx =>
        rename_i a xs ds
        cases dy with
        | tup hy ry =>
        rename_i b ys
        obtain ⟨hlen, hds⟩ := ok
        have l1 := dpAll_len rx
        have l2 := dpAll_len ry
        walk_at "z"
        refine ite_pos (by omega) ?_
        walk_at "z"
        rename_i H1 _ e1 _
        refine c_range (by omega) (fun D H' => H1 D = none ∧ Ex H1 H') (fun D i l H' => l = List.replicate i (.bl true)) (fun D H' n e _ => ⟨⟨n, e⟩, rfl⟩) (fun D i l H2 hi e2 hl hz r => ?_) (fun D l H2 e2 hl hz r => ?_)
        · obtain ⟨nD, e2⟩ := e2
          have i1 : i < xs.length := by omega
          have i2 : i < ys.length := by omega
          have i3 : i < ds.length := by omega
          walk_at "z"
          refine ⟨rfl, ?_⟩
          walk_at "z"
          refine Or.inr (Or.inl ⟨_, _, _, _, rfl, rfl, (Ex.sqT (by walk_at "zex") hx), atI_nat (List.getElem?_eq_getElem i1), ?_⟩)
          walk_at "z"
          refine Or.inr (Or.inl ⟨_, _, _, _, rfl, rfl, (Ex.sqT (by walk_at "zex") hy), atI_nat (List.getElem?_eq_getElem i2), ?_⟩)
          walk_at "z"
          refine ⟨_, _, ds[i], rfl, dp_ex (by walk_at "zex") (dpAll_get rx (List.getElem?_eq_getElem i1) (List.getElem?_eq_getElem i3)), dp_ex (by walk_at "zex") (dpAll_get ry (List.getElem?_eq_getElem i2) (List.getElem?_eq_getElem i3)), hds _ (List.getElem_mem i3), fun H3 e3 => ?_⟩
          exact c_put (e3 _ _ hl) (by omega) fun H5 f5 _ => ⟨⟨nD, fun q o hq => f5 _ _ (ne_of_none hq nD) (e3 _ _ (e2 _ _ hq))⟩, by rw [r, List.replicate_succ']⟩
        · obtain ⟨nD, e2⟩ := e2
          walk_at "z"
          refine s_rAll (List.replicate ys.length true) (SqL.of hl) (by rw [r, List.map_replicate]; simp) ?_
          exact ev_blT (by simp) (k _ (by walk_at "zex"))

/-! facts as data -/
inductive Arg where
  | i (n : Int)
  | t (l : List Int)
def Arg.enc : Arg → PyData
  | .i n => .int n
  | .t l => .tuple (l.map PyData.int)
structure Fct where
  w : Str
  xs : List Arg
def Fct.enc (f : Fct) : PyData := .tuple (.str f.w :: f.xs.map Arg.enc)
def Rising (l : List Int) : Prop := l.Pairwise (· < ·)
inductive GF : Fct → Prop
  | toll {g d h : Int} : R 0 7 g → R 0 999 d → R 0 48 h → GF ⟨"toll", [.i g, .i d, .i h]⟩
  | board {g d : Int} {gs : List Int} : R 0 7 g → R 0 999 d → Rising gs → (∀ x ∈ gs, R 0 7 x) → GF ⟨"board", [.i g, .i d, .t gs]⟩
  | trust {g d t : Int} : R 0 7 g → R 0 999 d → R 0 3 t → GF ⟨"trust", [.i g, .i d, .i t]⟩
  | folk {c a b : Int} : R 0 9 c → R 0 999 a → R 0 999 b → GF ⟨"folk", [.i c, .i a, .i b]⟩
  | bargain {g c a b : Int} : R 0 7 g → R 0 9 c → R 0 999 a → R 0 999 b → GF ⟨"bargain", [.i g, .i c, .i a, .i b]⟩
  | pass {d m g c h : Int} : R 0 999 d → R 0 1439 m → R 0 7 g → R 0 9 c → R 1 8 h → GF ⟨"pass", [.i d, .i m, .i g, .i c, .i h]⟩
  | lost {n m : Int} : 1 ≤ n → R 0 1439 m → GF ⟨"lost", [.i n, .i m]⟩
  | paid {c d h : Int} : R 0 9 c → R 0 999 d → R 0 100000 h → GF ⟨"paid", [.i c, .i d, .i h]⟩
/-- a lost ticket's number is no far one -/
def LB (f : Fct) : Prop := ∀ n m, f.xs = [.i n, .i m] → n ≤ 2000
def spFct (K : PySem.W.Frag) : Sp := fun vs H Q _ => ∃ b c : Addr, vs = [.ref b] ∧ Bag H b c ∧ ∀ v f H', GF f → Dp K H' v f.enc → Bag H' b c → Fr b H H' → LB f → Q v H'
theorem i3 {z : Int} (h0 : 0 ≤ z) (h1 : z < 3) : z = 0 ∨ z = 1 ∨ z = 2 := by omega
theorem i2 {z : Int} (h0 : 0 ≤ z) (h1 : z < 2) : z = 0 ∨ z = 1 := by omega
theorem sc_l_gate : FnScope ["_law_bag_here"] ["_law_bag_here"] (defScope s_l_gate) :=
  ⟨rfl, rfl, rfl, by decide +kernel, rfl, by decide +kernel, by decide +kernel⟩
theorem ok_l_gate (T : Tx P K mg w) : FnOk P w K mg base CX0 2 T.f_l_gate T.d_l_gate ["_law_bag_here"] (spInt 0 7) := by
  refine T.F_l_gate.ok sc_l_gate (fun vs H Q E h => ?_) (fun cdv A outer s H vs Q E hr h => ?_)
  · obtain ⟨b, c, rfl, _⟩ := h
    rfl
  · obtain ⟨b, c, rfl, B, k⟩ := h
    refine ⟨_, (pss_one (ps_ret (pe_call (ok_l_pull T) (hr.mono (by decide)) rfl T.g_l_pull T.F_l_pull.kp T.b_l_pull .nil pass0 (pa_cons (pv 0) (pa_cons (pe_ix (r := rIxT K) ix_tup (pe_tup (pa_cons pe_int (pa_cons pe_int pa_nil))) (pe_callTy cz_int1 (by rfl) T.z_int (by decide +kernel) (pa_cons (pe_cmpR op_eq (pe_call (ok_l_pull T) (hr.mono (by decide)) rfl T.g_l_pull T.F_l_pull.kp T.b_l_pull .nil pass0 (pa_cons (pv 0) (pa_cons pe_int pa_nil))) pe_int (nomark _)) pa_nil)) (fun _ _ => rfl)) pa_nil))))), ?_⟩
    refine at_start (ρ' := [some _]) rfl ?_
    walk_at "z0"
    walk_at "z"
    refine s_ixPT (IntIn 4 8) (by walk_at "zsq") (by split <;> decide) (by walk_at "zin") fun v ⟨n, e, hn⟩ => ?_
    subst e
    obtain ⟨n0, n1⟩ := hn
    walk_at "z"
    exact k _ _ (by assumption) (by omega) (by walk_at "zbag") (by walk_at "zfr")
theorem sc_l_day : FnScope ["_law_bag_here", "_law_some"] ["_law_bag_here"] (defScope s_l_day) :=
  ⟨rfl, rfl, rfl, by decide +kernel, rfl, by decide +kernel, by decide +kernel⟩
theorem ok_l_day (T : Tx P K mg w) : FnOk P w K mg base CX0 2 T.f_l_day T.d_l_day ["_law_bag_here"] (spInt 0 999) := by
  refine T.F_l_day.ok sc_l_day (fun vs H Q E h => ?_) (fun cdv A outer s H vs Q E hr h => ?_)
  · obtain ⟨b, c, rfl, _⟩ := h
    rfl
  · obtain ⟨b, c, rfl, B, k⟩ := h
    refine ⟨_, (pss_cons (ps_set (i := 1) sc_l_day.nd rfl (Or.inl rfl) (pe_ix (r := rIxL K) ix_list (pe_lst (pa_cons pe_int (pa_cons pe_int (pa_cons pe_int (pa_cons pe_int pa_nil))))) (pe_call (ok_l_pull T) (hr.mono (by decide)) rfl T.g_l_pull T.F_l_pull.kp T.b_l_pull .nil pass0 (pa_cons (pv 0) (pa_cons pe_int pa_nil))) (fun _ _ => rfl))) (pss_one (ps_ret (pe_ix (r := rIxL K) ix_list (pe_lst (pa_cons (pe_call (ok_l_pull T) (hr.mono (by decide)) rfl T.g_l_pull T.F_l_pull.kp T.b_l_pull .nil pass0 (pa_cons (pv 0) (pa_cons pe_int pa_nil))) (pa_cons (pv 1) (pa_cons (pe_op op_add pe_int (pe_call (ok_l_pull T) (hr.mono (by decide)) rfl T.g_l_pull T.F_l_pull.kp T.b_l_pull .nil pass0 (pa_cons (pv 0) (pa_cons pe_int pa_nil)))) (pa_cons (pe_call (ok_l_pull T) (hr.mono (by decide)) rfl T.g_l_pull T.F_l_pull.kp T.b_l_pull .nil pass0 (pa_cons (pv 0) (pa_cons pe_int pa_nil))) pa_nil))))) (pe_call (ok_l_pull T) (hr.mono (by decide)) rfl T.g_l_pull T.F_l_pull.kp T.b_l_pull .nil pass0 (pa_cons (pv 0) (pa_cons pe_int pa_nil))) (fun _ _ => rfl))))), ?_⟩
    refine at_start (ρ' := [some _, none]) rfl ?_
    walk_at "z0"
    walk_at "z"
    refine s_ixP (IntIn 0 999) (by walk_at "zsq") ⟨by assumption, by assumption⟩ (by walk_at "zin") fun v ⟨n, e, hn⟩ => ?_
    subst e
    obtain ⟨n0, n1⟩ := hn
    walk_at "z"
    refine s_ixP (IntIn 0 999) (by walk_at "zsq") ⟨by assumption, by assumption⟩ (by walk_at "zin") fun v ⟨m, e, hm⟩ => ?_
    subst e
    exact k _ _ hm.1 hm.2 (by walk_at "zbag") (by walk_at "zfr")

theorem dp_ints {K : PySem.W.Frag} {H : Hp} : ∀ l : List Int, DpAll K H (l.map V.int) (l.map PyData.int)
  | [] => .nil
  | _ :: l => .cons (.int _) (dp_ints l)
theorem use_fct {K : PySem.W.Frag} {H : Hp} {b c : Addr} {Q : VK} {E : XK} (B : Bag H b c) (k : ∀ v f H', GF f → Dp K H' v f.enc → Bag H' b c → Fr b H H' → LB f → Q v H') : spFct K ([.ref b] ++ []) H Q E := ⟨b, c, rfl, B, k⟩
theorem sc_l_passing : FnScope ["_law_bag_here", "_law_minute", "_law_carriage"] ["_law_bag_here"] (defScope s_l_passing) :=
  ⟨rfl, rfl, rfl, by decide +kernel, rfl, by decide +kernel, by decide +kernel⟩
theorem ok_l_passing (T : Tx P K mg w) : FnOk P w K mg base CX0 3 T.f_l_passing T.d_l_passing ["_law_bag_here"] (spFct K) := by
  refine T.F_l_passing.ok sc_l_passing (fun vs H Q E h => ?_) (fun cdv A outer s H vs Q E hr h => ?_)
  · obtain ⟨b, c, rfl, _⟩ := h
    rfl
  · obtain ⟨b, c, rfl, B, k⟩ := h
    refine ⟨_, (pss_cons (ps_set (i := 1) sc_l_passing.nd rfl (Or.inl rfl) (pe_ix (r := rIxL K) ix_list (pe_lst (pa_cons (pe_call (ok_l_pull T) (hr.mono (by decide)) rfl T.g_l_pull T.F_l_pull.kp T.b_l_pull .nil pass0 (pa_cons (pv 0) (pa_cons pe_int pa_nil))) (pa_cons (pe_call (ok_l_pull T) (hr.mono (by decide)) rfl T.g_l_pull T.F_l_pull.kp T.b_l_pull .nil pass0 (pa_cons (pv 0) (pa_cons pe_int pa_nil))) (pa_cons pe_int pa_nil)))) (pe_call (ok_l_pull T) (hr.mono (by decide)) rfl T.g_l_pull T.F_l_pull.kp T.b_l_pull .nil pass0 (pa_cons (pv 0) (pa_cons pe_int pa_nil))) (fun _ _ => rfl))) (pss_cons (ps_set (i := 2) sc_l_passing.nd rfl (Or.inl rfl) (pe_call (ok_l_pull T) (hr.mono (by decide)) rfl T.g_l_pull T.F_l_pull.kp T.b_l_pull .nil pass0 (pa_cons (pv 0) (pa_cons (pe_ix (r := rIxT K) ix_tup (pe_tup (pa_cons pe_int (pa_cons pe_int pa_nil))) (pe_callTy cz_int1 (by rfl) T.z_int (by decide +kernel) (pa_cons (pe_cmpR op_eq (pe_call (ok_l_pull T) (hr.mono (by decide)) rfl T.g_l_pull T.F_l_pull.kp T.b_l_pull .nil pass0 (pa_cons (pv 0) (pa_cons pe_int pa_nil))) pe_int (nomark _)) pa_nil)) (fun _ _ => rfl)) pa_nil)))) (pss_one (ps_ret (pe_tup (pa_cons pe_str (pa_cons (pe_call (ok_l_day T) (hr.mono (by decide)) rfl T.g_l_day T.F_l_day.kp T.b_l_day .nil pass0 (pa_cons (pv 0) pa_nil)) (pa_cons (pv 1) (pa_cons (pe_call (ok_l_gate T) (hr.mono (by decide)) rfl T.g_l_gate T.F_l_gate.kp T.b_l_gate .nil pass0 (pa_cons (pv 0) pa_nil)) (pa_cons (pv 2) (pa_cons (pe_op op_add pe_int (pe_call (ok_l_pull T) (hr.mono (by decide)) rfl T.g_l_pull T.F_l_pull.kp T.b_l_pull .nil pass0 (pa_cons (pv 0) (pa_cons pe_int pa_nil)))) pa_nil))))))))))), ?_⟩
    refine at_start (ρ' := [some _, none, none]) rfl ?_
    walk_at "z0"
    walk_at "z"
    refine s_ixP (IntIn 0 1439) (by walk_at "zsq") ⟨by assumption, by assumption⟩ (by walk_at "zin") fun v ⟨m, e, m0, m1⟩ => ?_
    subst e
    walk_at "z"
    refine s_ixPT (IntIn 3 10) (by walk_at "zsq") (by split <;> decide) (by walk_at "zin") fun v ⟨n, e, n0, n1⟩ => ?_
    subst e
    walk_at "z"
    rename_i ca _ _ _ _ _ d _ _ _ _ _ g _ _ _ _ _ h _ _ _ _ _ t H1 _ _ ht
    exact k _ ⟨"pass", [.i d, .i m, .i g, .i ca, .i (1 + h)]⟩ _ (.pass ⟨by omega, by omega⟩ ⟨m0, m1⟩ ⟨by omega, by omega⟩ ⟨by omega, by omega⟩ ⟨by omega, by omega⟩) (.tup (SqT.of ht) (by walk_at "zdp")) (by walk_at "zbag") (by walk_at "zfr") (fun n m e => by cases e)
def spStretch (K : PySem.W.Frag) : Sp := fun vs H Q _ => ∃ b c : Addr, vs = [.ref b] ∧ Bag H b c ∧ ∀ t x y H', R 0 999 x → R 0 999 y → H' t = some (.tup [.int x, .int y]) → Bag H' b c → Fr b H H' → Q (.ref t) H'
theorem use_stretch {K : PySem.W.Frag} {H : Hp} {b c : Addr} {Q : VK} {E : XK} (B : Bag H b c) (k : ∀ t x y H', R 0 999 x → R 0 999 y → H' t = some (.tup [.int x, .int y]) → Bag H' b c → Fr b H H' → Q (.ref t) H') : spStretch K ([.ref b] ++ []) H Q E := ⟨b, c, rfl, B, k⟩
theorem sc_l_stretch : FnScope ["_law_bag_here", "_law_first"] ["_law_bag_here"] (defScope s_l_stretch) :=
  ⟨rfl, rfl, rfl, by decide +kernel, rfl, by decide +kernel, by decide +kernel⟩
theorem ok_l_stretch (T : Tx P K mg w) : FnOk P w K mg base CX0 3 T.f_l_stretch T.d_l_stretch ["_law_bag_here"] (spStretch K) := by
  refine T.F_l_stretch.ok sc_l_stretch (fun vs H Q E h => ?_) (fun cdv A outer s H vs Q E hr h => ?_)
  · obtain ⟨b, c, rfl, _⟩ := h
    rfl
  · obtain ⟨b, c, rfl, B, k⟩ := h
    refine ⟨_, (pss_cons (ps_set (i := 1) sc_l_stretch.nd rfl (Or.inl rfl) (pe_call (ok_l_day T) (hr.mono (by decide)) rfl T.g_l_day T.F_l_day.kp T.b_l_day .nil pass0 (pa_cons (pv 0) pa_nil))) (pss_one (ps_ret (pe_tup (pa_cons (pv 1) (pa_cons (pe_op op_mod (pe_ix (r := rIxL K) ix_list (pe_lst (pa_cons (pv 1) (pa_cons pe_int (pa_cons (pe_op op_add (pv 1) (pe_call (ok_l_pull T) (hr.mono (by decide)) rfl T.g_l_pull T.F_l_pull.kp T.b_l_pull .nil pass0 (pa_cons (pv 0) (pa_cons pe_int pa_nil)))) (pa_cons (pe_call (ok_l_day T) (hr.mono (by decide)) rfl T.g_l_day T.F_l_day.kp T.b_l_day .nil pass0 (pa_cons (pv 0) pa_nil)) pa_nil))))) (pe_call (ok_l_pull T) (hr.mono (by decide)) rfl T.g_l_pull T.F_l_pull.kp T.b_l_pull .nil pass0 (pa_cons (pv 0) (pa_cons pe_int pa_nil))) (fun _ _ => rfl)) pe_int) pa_nil)))))), ?_⟩
    refine at_start (ρ' := [some _, none]) rfl ?_
    walk_at "z0"
    walk_at "z"
    refine s_ixP (IntIn 0 2000) (by walk_at "zsq") ⟨by assumption, by assumption⟩ (by walk_at "zin") fun v ⟨m, e, m0, m1⟩ => ?_
    subst e
    walk_at "z"
    rename_i t H1 _ _ ht
    exact k _ _ _ _ ⟨by assumption, by assumption⟩ ⟨by omega, by omega⟩ ht (by walk_at "zbag") (by walk_at "zfr")
theorem sc_l_board : FnScope ["_law_bag_here", "_law_gates", "_law_gate_here"] ["_law_bag_here"] (defScope s_l_board) :=
  ⟨rfl, rfl, rfl, by decide +kernel, rfl, by decide +kernel, by decide +kernel⟩
theorem ok_l_board (T : Tx P K mg w) : FnOk P w K mg base CX0 3 T.f_l_board T.d_l_board ["_law_bag_here"] (spFct K) := by
  refine T.F_l_board.ok sc_l_board (fun vs H Q E h => ?_) (fun cdv A outer s H vs Q E hr h => ?_)
  · obtain ⟨b, c, rfl, _⟩ := h
    rfl
  · obtain ⟨b, c, rfl, B, k⟩ := h
    refine ⟨_, (pss_cons (ps_set (i := 1) sc_l_board.nd rfl (Or.inl rfl) (pe_callTy (r := rTupleOf K) cz_tupleOf (by rfl) T.z_tuple (by decide +kernel) (pa_cons (pe_lc (own := [("_law_gate_here", 2)]) (by rfl) sc_l_board.nd (pi_range1 (by rfl) T.z_range (pa_cons pe_int pa_nil)) (blkOk_by (own := [("_law_gate_here", 2)]) (N := ["_law_bag_here", "_law_gates", "_law_gate_here"]) (sc := defScope s_l_board) (by decide +kernel)) (fun _ _ _ _ _ => (pg_name (i := 2) sc_l_board.nd rfl (Or.inl rfl))) (fun _ _ _ _ _ => (pts_one (pt_cmpR op_eq (pe_call (ok_l_pull T) (hr.mono (by decide)) rfl T.g_l_pull T.F_l_pull.kp T.b_l_pull .nil pass0 (pa_cons (pv 0) (pa_cons pe_int pa_nil))) pe_int (nomark _)))) (fun _ _ _ _ _ => (pv 2))) pa_nil))) (pss_one (ps_ret (pe_tup (pa_cons pe_str (pa_cons (pe_call (ok_l_gate T) (hr.mono (by decide)) rfl T.g_l_gate T.F_l_gate.kp T.b_l_gate .nil pass0 (pa_cons (pv 0) pa_nil)) (pa_cons (pe_call (ok_l_day T) (hr.mono (by decide)) rfl T.g_l_day T.F_l_day.kp T.b_l_day .nil pass0 (pa_cons (pv 0) pa_nil)) (pa_cons (pv 1) pa_nil)))))))), ?_⟩
    refine at_start (ρ' := [some _, none, none]) rfl ?_
    walk_at "z0"
    walk_at "z"
    refine c_range (by decide) (fun D H' => D ≠ b ∧ D ≠ c ∧ H D = none ∧ Bag H' b c ∧ Fr b H H') (fun D i l H' => ∃ gs : List Int, l = gs.map V.int ∧ Rising gs ∧ ∀ x ∈ gs, R 0 (i - 1) x) (fun D H' n e _ => ⟨⟨B.neb n, B.nec n, n, B.ext e, e.fr b⟩, [], rfl, List.Pairwise.nil, fun _ h => by cases h⟩) (fun D i l H1 hi Iv hl hz r => ?_) (fun D l H1 Iv hl hz r => ?_)
    · obtain ⟨nb, nc, nD, B1, f1⟩ := Iv
      obtain ⟨gs, rfl, hr, hb⟩ := r
      walk_at "z"
      refine ⟨rfl, ?_⟩
      walk_at "z"
      refine ite_dec (fun h0 => ?_) (fun h0 => ?_)
      · walk_at "z"
        refine c_put (by walk_at "zhp") (by omega) fun H5 f5 _ => ⟨⟨nb, nc, nD, Bag.frs (by assumption) nb nc f5, ?_⟩, gs ++ [(i : Int)], by rw [List.map_append]; rfl, ?_, ?_⟩
        · exact fun a o n h => f5 a o (ne_of_none h nD) ((f1.trans (by assumption)) a o n h)
        · refine List.pairwise_append.mpr ⟨hr, List.pairwise_singleton _ _, fun x hx y hy => ?_⟩
          rw [List.mem_singleton] at hy
          have := (hb x hx).2
          omega
        · intro x hx
          rcases List.mem_append.mp hx with hx | hx
          · have := hb x hx
            exact ⟨this.1, by have := this.2; omega⟩
          · rw [List.mem_singleton] at hx
            exact ⟨by omega, by omega⟩
      · walk_at "z"
        refine c_skip (by walk_at "zhp") hz ⟨nb, nc, nD, by assumption, f1.trans (by assumption)⟩ ⟨gs, rfl, hr, fun x hx => ?_⟩
        have := hb x hx
        exact ⟨this.1, by have := this.2; omega⟩
    · obtain ⟨nb, nc, nD, B1, f1⟩ := Iv
      obtain ⟨gs, rfl, hr, hb⟩ := r
      walk_at "z"
      rename_i q H2 _ e2 hq g H3 g0 g1 B3 f3 d H4 d0 d1 B4 f4 t H5 _ e5 ht
      have qb : q ≠ b := B1.neb (by assumption)
      have hq5 := e5 _ _ (f4 _ _ qb (f3 _ _ qb hq))
      exact k _ ⟨"board", [.i g, .i d, .t gs]⟩ _ (.board ⟨by omega, by omega⟩ ⟨by omega, by omega⟩ hr fun x hx => by
        have h := hb x hx
        exact ⟨h.1, by have := h.2; omega⟩) (.tup (SqT.of ht) (.cons (.str _) (.cons (.int _) (.cons (.int _) (.cons (.tup (SqT.of hq5) (dp_ints _)) .nil))))) (by walk_at "zbag") (by walk_at "zfr") (fun n m e => by cases e)
def spFact (K : PySem.W.Frag) : Sp := fun vs H Q _ => ∃ (b c : Addr) (n : Int), vs = [.ref b, .int n] ∧ 0 ≤ n ∧ n ≤ 1000 ∧ Bag H b c ∧ ∀ v f H', GF f → Dp K H' v f.enc → Bag H' b c → Fr b H H' → LB f → Q v H'
theorem sc_l_fact : FnScope ["_law_bag_here", "_law_amount", "_law_turn", "_law_coins"] ["_law_bag_here", "_law_amount"] (defScope s_l_fact) :=
  ⟨rfl, rfl, rfl, by decide +kernel, rfl, by decide +kernel, by decide +kernel⟩
theorem ok_l_fact (T : Tx P K mg w) : FnOk P w K mg base CX0 4 T.f_l_fact T.d_l_fact ["_law_bag_here", "_law_amount"] (spFact K) := by
  refine T.F_l_fact.ok sc_l_fact (fun vs H Q E h => ?_) (fun cdv A outer s H vs Q E hr h => ?_)
  · obtain ⟨b, c, n, rfl, _⟩ := h
    rfl
  · obtain ⟨b, c, n, rfl, n0, n1, B, k⟩ := h
    refine ⟨_, (pss_cons (ps_set (i := 2) sc_l_fact.nd rfl (Or.inl rfl) (pe_call (ok_l_pull T) (hr.mono (by decide)) rfl T.g_l_pull T.F_l_pull.kp T.b_l_pull .nil pass0 (pa_cons (pv 0) (pa_cons pe_int pa_nil)))) (pss_cons (ps_if (pt_cmpR op_lt (pv 2) pe_int (nomark _)) (pss_one (ps_ret (pe_call (ok_l_passing T) (hr.mono (by decide)) rfl T.g_l_passing T.F_l_passing.kp T.b_l_passing .nil pass0 (pa_cons (pv 0) pa_nil)))) pss_nil) (pss_cons (ps_if (pt_cmpR op_lt (pv 2) pe_int (nomark _)) (pss_one (ps_ret (pe_tup (pa_cons pe_str (pa_cons (pe_call (ok_l_gate T) (hr.mono (by decide)) rfl T.g_l_gate T.F_l_gate.kp T.b_l_gate .nil pass0 (pa_cons (pv 0) pa_nil)) (pa_cons (pe_call (ok_l_day T) (hr.mono (by decide)) rfl T.g_l_day T.F_l_day.kp T.b_l_day .nil pass0 (pa_cons (pv 0) pa_nil)) (pa_cons (pe_call (ok_l_pull T) (hr.mono (by decide)) rfl T.g_l_pull T.F_l_pull.kp T.b_l_pull .nil pass0 (pa_cons (pv 0) (pa_cons pe_int pa_nil))) pa_nil))))))) pss_nil) (pss_cons (ps_if (pt_cmpR op_lt (pv 2) pe_int (nomark _)) (pss_one (ps_ret (pe_call (ok_l_board T) (hr.mono (by decide)) rfl T.g_l_board T.F_l_board.kp T.b_l_board .nil pass0 (pa_cons (pv 0) pa_nil)))) pss_nil) (pss_cons (ps_if (pt_cmpR op_lt (pv 2) pe_int (nomark _)) (pss_one (ps_ret (pe_tup (pa_cons pe_str (pa_cons (pe_call (ok_l_gate T) (hr.mono (by decide)) rfl T.g_l_gate T.F_l_gate.kp T.b_l_gate .nil pass0 (pa_cons (pv 0) pa_nil)) (pa_cons (pe_call (ok_l_day T) (hr.mono (by decide)) rfl T.g_l_day T.F_l_day.kp T.b_l_day .nil pass0 (pa_cons (pv 0) pa_nil)) (pa_cons (pe_call (ok_l_pull T) (hr.mono (by decide)) rfl T.g_l_pull T.F_l_pull.kp T.b_l_pull .nil pass0 (pa_cons (pv 0) (pa_cons pe_int pa_nil))) pa_nil))))))) pss_nil) (pss_cons (ps_if (pt_cmpR op_lt (pv 2) pe_int (nomark _)) (pss_one (ps_ret (pe_op (r := rCatA K) op_catA (pe_tup (pa_cons pe_str (pa_cons (pe_call (ok_l_pull T) (hr.mono (by decide)) rfl T.g_l_pull T.F_l_pull.kp T.b_l_pull .nil pass0 (pa_cons (pv 0) (pa_cons pe_int pa_nil))) pa_nil))) (pe_call (ok_l_stretch T) (hr.mono (by decide)) rfl T.g_l_stretch T.F_l_stretch.kp T.b_l_stretch .nil pass0 (pa_cons (pv 0) pa_nil))))) pss_nil) (pss_cons (ps_if (pt_cmpR op_lt (pv 2) pe_int (nomark _)) (pss_one (ps_ret (pe_op (r := rCatA K) op_catA (pe_tup (pa_cons pe_str (pa_cons (pe_call (ok_l_gate T) (hr.mono (by decide)) rfl T.g_l_gate T.F_l_gate.kp T.b_l_gate .nil pass0 (pa_cons (pv 0) pa_nil)) (pa_cons (pe_call (ok_l_pull T) (hr.mono (by decide)) rfl T.g_l_pull T.F_l_pull.kp T.b_l_pull .nil pass0 (pa_cons (pv 0) (pa_cons pe_int pa_nil))) pa_nil)))) (pe_call (ok_l_stretch T) (hr.mono (by decide)) rfl T.g_l_stretch T.F_l_stretch.kp T.b_l_stretch .nil pass0 (pa_cons (pv 0) pa_nil))))) pss_nil) (pss_cons (ps_if (pt_cmpR op_lt (pv 2) pe_int (nomark _)) (pss_one (ps_ret (pe_tup (pa_cons pe_str (pa_cons (pe_op op_add pe_int (pe_call (ok_l_pull T) (hr.mono (by decide)) rfl T.g_l_pull T.F_l_pull.kp T.b_l_pull .nil pass0 (pa_cons (pv 0) (pa_cons (pe_op op_add (pv 1) pe_int) pa_nil)))) (pa_cons (pe_ix (r := rIxL K) ix_list (pe_lst (pa_cons pe_int (pa_cons (pe_call (ok_l_pull T) (hr.mono (by decide)) rfl T.g_l_pull T.F_l_pull.kp T.b_l_pull .nil pass0 (pa_cons (pv 0) (pa_cons pe_int pa_nil))) (pa_cons pe_int pa_nil)))) (pe_call (ok_l_pull T) (hr.mono (by decide)) rfl T.g_l_pull T.F_l_pull.kp T.b_l_pull .nil pass0 (pa_cons (pv 0) (pa_cons pe_int pa_nil))) (fun _ _ => rfl)) pa_nil)))))) pss_nil) (pss_cons (ps_set (i := 3) sc_l_fact.nd rfl (Or.inl rfl) (pe_ix (r := rIxL K) ix_list (pe_lst (pa_cons (pe_call (ok_l_pull T) (hr.mono (by decide)) rfl T.g_l_pull T.F_l_pull.kp T.b_l_pull .nil pass0 (pa_cons (pv 0) (pa_cons pe_int pa_nil))) (pa_cons (pe_call (ok_l_pull T) (hr.mono (by decide)) rfl T.g_l_pull T.F_l_pull.kp T.b_l_pull .nil pass0 (pa_cons (pv 0) (pa_cons pe_int pa_nil))) (pa_cons (pe_op op_add pe_int (pe_call (ok_l_pull T) (hr.mono (by decide)) rfl T.g_l_pull T.F_l_pull.kp T.b_l_pull .nil pass0 (pa_cons (pv 0) (pa_cons pe_int pa_nil)))) pa_nil)))) (pe_call (ok_l_pull T) (hr.mono (by decide)) rfl T.g_l_pull T.F_l_pull.kp T.b_l_pull .nil pass0 (pa_cons (pv 0) (pa_cons pe_int pa_nil))) (fun _ _ => rfl))) (pss_one (ps_ret (pe_tup (pa_cons pe_str (pa_cons (pe_call (ok_l_pull T) (hr.mono (by decide)) rfl T.g_l_pull T.F_l_pull.kp T.b_l_pull .nil pass0 (pa_cons (pv 0) (pa_cons (pe_ix (r := rIxT K) ix_tup (pe_tup (pa_cons pe_int (pa_cons pe_int pa_nil))) (pe_callTy cz_int1 (by rfl) T.z_int (by decide +kernel) (pa_cons (pe_cmpR op_eq (pe_call (ok_l_pull T) (hr.mono (by decide)) rfl T.g_l_pull T.F_l_pull.kp T.b_l_pull .nil pass0 (pa_cons (pv 0) (pa_cons pe_int pa_nil))) pe_int (nomark _)) pa_nil)) (fun _ _ => rfl)) pa_nil))) (pa_cons (pe_call (ok_l_day T) (hr.mono (by decide)) rfl T.g_l_day T.F_l_day.kp T.b_l_day .nil pass0 (pa_cons (pv 0) pa_nil)) (pa_cons (pv 3) pa_nil)))))))))))))))), ?_⟩
    refine at_start (ρ' := [some _, some _, none, none]) rfl ?_
    walk_at "z0"
    walk_at "z"
    refine ite_dec (fun h1 => ?_) (fun h1 => ?_)
    · walk_at "z"
      refine use_fct (by assumption) fun v f H' gf dv B' f' lb => k v f H' gf dv B' (by walk_at "zfr") lb
    walk_at "z"
    refine ite_dec (fun h2 => ?_) (fun h2 => ?_)
    · walk_at "z"
      rename_i g _ _ _ _ _ d _ _ _ _ _ h _ _ _ _ _ t _ _ _ ht
      exact k _ ⟨"toll", [.i g, .i d, .i h]⟩ _ (.toll ⟨by omega, by omega⟩ ⟨by omega, by omega⟩ ⟨by omega, by omega⟩) (.tup (SqT.of ht) (by walk_at "zdp")) (by walk_at "zbag") (by walk_at "zfr") (fun n m e => by cases e)
    walk_at "z"
    refine ite_dec (fun h3 => ?_) (fun h3 => ?_)
    · walk_at "z"
      refine use_fct (by assumption) fun v f H' gf dv B' f' lb => k v f H' gf dv B' (by walk_at "zfr") lb
    walk_at "z"
    refine ite_dec (fun h4 => ?_) (fun h4 => ?_)
    · walk_at "z"
      rename_i g _ _ _ _ _ d _ _ _ _ _ h _ _ _ _ _ t _ _ _ ht
      exact k _ ⟨"trust", [.i g, .i d, .i h]⟩ _ (.trust ⟨by omega, by omega⟩ ⟨by omega, by omega⟩ ⟨by omega, by omega⟩) (.tup (SqT.of ht) (by walk_at "zdp")) (by walk_at "zbag") (by walk_at "zfr") (fun n m e => by cases e)
    walk_at "z"
    refine ite_dec (fun h5 => ?_) (fun h5 => ?_)
    · walk_at "z"
      refine use_stretch (by walk_at "zbag") fun t x y H5 hx hy ht B5 f5 => ?_
      refine s_catA (by walk_at "zsq") (SqT.of ht) (by simp) (by simp) (sz (by simp)) ?_
      refine s_new fun q H6 nq e6 hq => ?_
      exact k _ ⟨"folk", [.i _, .i x, .i y]⟩ _ (.folk ⟨by assumption, by omega⟩ hx hy) (.tup (SqT.of hq) (by walk_at "zdp")) (by walk_at "zbag") (by walk_at "zfr") (fun n m e => by cases e)
    walk_at "z"
    refine ite_dec (fun h6 => ?_) (fun h6 => ?_)
    · walk_at "z"
      rename_i g _ _ _ _ _ ca _ _ _ _ _ p _ _ _ hp
      refine use_stretch (by walk_at "zbag") fun t x y H5 hx hy ht B5 f5 => ?_
      refine s_catA (SqT.of (by walk_at "zhp")) (SqT.of ht) (by simp) (by simp) (sz (by simp)) ?_
      refine s_new fun q H6 nq e6 hq => ?_
      exact k _ ⟨"bargain", [.i g, .i ca, .i x, .i y]⟩ _ (.bargain ⟨by omega, by omega⟩ ⟨by omega, by omega⟩ hx hy) (.tup (SqT.of hq) (by walk_at "zdp")) (by walk_at "zbag") (by walk_at "zfr") (fun n m e => by cases e)
    walk_at "z"
    refine ite_dec (fun h7 => ?_) (fun h7 => ?_)
    · walk_at "z"
      rename_i nn Hn nn0 nn1 _ _ mi Hm _ _ _ _ pl Hl _ _ _ ix Hi _ _ _ _
      refine s_ixP (IntIn 0 1439) (by walk_at "zsq") ⟨by assumption, by assumption⟩ (by walk_at "zin") fun v ⟨m, e, m0, m1⟩ => ?_
      subst e
      walk_at "z"
      rename_i t _ _ _ ht
      exact k _ ⟨"lost", [.i (1 + nn), .i m]⟩ _ (.lost (by omega) ⟨m0, m1⟩) (.tup (SqT.of ht) (by walk_at "zdp")) (by walk_at "zbag") (by walk_at "zfr") (fun n m e => by cases e; omega)
    walk_at "z"
    refine s_ixP (IntIn 0 100000) (by walk_at "zsq") ⟨by assumption, by assumption⟩ (by walk_at "zin") fun v ⟨m, e, m0, m1⟩ => ?_
    subst e
    walk_at "z"
    refine s_ixPT (IntIn 3 10) (by walk_at "zsq") (by split <;> decide) (by walk_at "zin") fun v ⟨n, e, n0, n1⟩ => ?_
    subst e
    walk_at "z"
    rename_i ca _ _ _ _ _ d _ _ _ _ _ t _ _ _ ht
    exact k _ ⟨"paid", [.i ca, .i d, .i m]⟩ _ (.paid ⟨by omega, by omega⟩ ⟨by omega, by omega⟩ ⟨m0, m1⟩) (.tup (SqT.of ht) (by walk_at "zdp")) (by walk_at "zbag") (by walk_at "zfr") (fun n m e => by cases e)

/-! facts as they lie in the heap: tuples alone -/
theorem sqT_fr {K : PySem.W.Frag} {b a : Addr} {H H' : Hp} {xs ys : List V} (e : Fr b H H') (hb : H b = some (.lst ys)) (h : SqT K H a xs) : SqT K H' a xs := by
  rcases h with (h | ⟨o, h⟩) | h
  · exact .inl (.inl (e _ _ (ne_of h hb (fun z => by cases z)) h))
  · exact .inl (.inr ⟨o, e _ _ (ne_of h hb (fun z => by cases z)) h⟩)
  · exact .inr h
inductive FD (K : PySem.W.Frag) (H : Hp) : V → Arg → Prop
  | i (n : Int) : FD K H (.int n) (.i n)
  | t {a : Addr} {l : List Int} : SqT K H a (l.map V.int) → FD K H (.ref a) (.t l)
inductive FDs (K : PySem.W.Frag) (H : Hp) : List V → List Arg → Prop
  | nil : FDs K H [] []
  | cons {v : V} {x : Arg} {vs : List V} {xs : List Arg} : FD K H v x → FDs K H vs xs → FDs K H (v :: vs) (x :: xs)
/-- v is the fact f -/
def RF (K : PySem.W.Frag) (H : Hp) (v : V) (f : Fct) : Prop := ∃ a vs, v = .ref a ∧ SqT K H a (.str f.w :: vs) ∧ FDs K H vs f.xs
inductive RFs (K : PySem.W.Frag) (H : Hp) : List V → List (Int × Fct) → Prop
  | nil : RFs K H [] []
  | cons {p : Addr} {n : Int} {v : V} {f : Fct} {vs : List V} {fs : List (Int × Fct)} : SqT K H p [.int n, v] → RF K H v f → RFs K H vs fs → RFs K H (.ref p :: vs) ((n, f) :: fs)
section
variable {K : PySem.W.Frag} {H H' : Hp}
theorem fd_map (g : ∀ {a xs}, SqT K H a xs → SqT K H' a xs) {v : V} {x : Arg} (h : FD K H v x) : FD K H' v x := by
  cases h with
  | i n => exact .i n
  | t h => exact .t (g h)
theorem fds_map (g : ∀ {a xs}, SqT K H a xs → SqT K H' a xs) : ∀ {vs : List V} {xs : List Arg}, FDs K H vs xs → FDs K H' vs xs
  | _, _, .nil => .nil
  | _, _, .cons h r => .cons (fd_map g h) (fds_map g r)
theorem rf_map (g : ∀ {a xs}, SqT K H a xs → SqT K H' a xs) {v : V} {f : Fct} (h : RF K H v f) : RF K H' v f := by
  obtain ⟨a, vs, e, h1, h2⟩ := h
  exact ⟨a, vs, e, g h1, fds_map g h2⟩
theorem rfs_map (g : ∀ {a xs}, SqT K H a xs → SqT K H' a xs) : ∀ {vs : List V} {fs : List (Int × Fct)}, RFs K H vs fs → RFs K H' vs fs
  | _, _, .nil => .nil
  | _, _, .cons h q r => .cons (g h) (rf_map g q) (rfs_map g r)
theorem rf_ex (e : Ex H H') {v : V} {f : Fct} (h : RF K H v f) : RF K H' v f := rf_map (fun z => e.sqT z) h
theorem rfs_ex (e : Ex H H') {vs : List V} {fs : List (Int × Fct)} (h : RFs K H vs fs) : RFs K H' vs fs := rfs_map (fun z => e.sqT z) h
theorem rf_fr {b : Addr} {ys : List V} (e : Fr b H H') (hb : H b = some (.lst ys)) {v : V} {f : Fct} (h : RF K H v f) : RF K H' v f := rf_map (fun z => sqT_fr e hb z) h
theorem rf_pull {b c : Addr} (e : Fr b H H') (B : Bag H b c) {v : V} {f : Fct} (h : RF K H v f) : RF K H' v f := by
  obtain ⟨ys, hb⟩ := B.getb
  exact rf_fr e hb h
theorem rfs_snoc {p : Addr} {n : Int} {v : V} {f : Fct} (h1 : SqT K H p [.int n, v]) (h2 : RF K H v f) : ∀ {vs : List V} {fs : List (Int × Fct)}, RFs K H vs fs → RFs K H (vs ++ [.ref p]) (fs ++ [(n, f)])
  | _, _, .nil => .cons h1 h2 .nil
  | _, _, .cons a b r => .cons a b (rfs_snoc h1 h2 r)
theorem rfs_len : ∀ {vs : List V} {fs : List (Int × Fct)}, RFs K H vs fs → vs.length = fs.length
  | _, _, .nil => rfl
  | _, _, .cons _ _ r => congrArg Nat.succ (rfs_len r)
theorem rfs_get : ∀ {vs : List V} {fs : List (Int × Fct)} {i : Nat} {x : V}, RFs K H vs fs → vs[i]? = some x → ∃ p n v f, fs[i]? = some (n, f) ∧ x = .ref p ∧ SqT K H p [.int n, v] ∧ RF K H v f
  | _, _, 0, _, .cons a b _, e => by
    cases e
    exact ⟨_, _, _, _, rfl, rfl, a, b⟩
  | _, _, i + 1, _, .cons _ _ r, e => rfs_get (i := i) r (by simpa using e)
theorem dp_ints_inv : ∀ {vs : List V} {l : List Int}, DpAll K H vs (l.map PyData.int) → vs = l.map V.int
  | _, [], h => by cases h; rfl
  | _, _ :: l, h => by
    cases h with
    | cons a r =>
      cases a
      rw [dp_ints_inv r]
      rfl
theorem dp_fds : ∀ {vs : List V} {xs : List Arg}, DpAll K H vs (xs.map Arg.enc) → FDs K H vs xs
  | _, [], h => by cases h; exact .nil
  | _, x :: xs, h => by
    cases h with
    | cons a r =>
      refine .cons ?_ (dp_fds r)
      cases x with
      | i n => cases a; exact .i n
      | t l =>
        cases a with
        | tup h1 h2 =>
          rw [dp_ints_inv h2] at h1
          exact .t h1
theorem dp_rf {v : V} {f : Fct} (h : Dp K H v f.enc) : RF K H v f := by
  obtain ⟨w, xs⟩ := f
  cases h with
  | tup h1 h2 =>
    cases h2 with
    | cons a r =>
      cases a
      exact ⟨_, _, rfl, h1, dp_fds r⟩
end
theorem use_factL {K : PySem.W.Frag} {H : Hp} {b c : Addr} {n : Int} {Q : VK} {E : XK} (B : Bag H b c) (hn : 0 ≤ n ∧ n ≤ 1000) (k : ∀ v f H', GF f → RF K H' v f → Bag H' b c → Fr b H H' → LB f → Q v H') : spFact K ([.ref b, .int n] ++ []) H Q E := ⟨b, c, n, rfl, hn.1, hn.2, B, fun v f H' g d B' f' lb => k v f H' g (dp_rf d) B' f' lb⟩
theorem rising_ext : ∀ {a b : List Int}, Rising a → Rising b → (∀ x, x ∈ a ↔ x ∈ b) → a = b
  | [], [], _, _, _ => rfl
  | [], y :: b, _, _, h => absurd ((h y).mpr List.mem_cons_self) (by simp)
  | x :: a, [], _, _, h => absurd ((h x).mp List.mem_cons_self) (by simp)
  | x :: a, y :: b, ha, hb, h => by
    unfold Rising at ha hb
    rw [List.pairwise_cons] at ha hb
    have e : x = y := by
      have h1 := (h x).mp List.mem_cons_self
      have h2 := (h y).mpr List.mem_cons_self
      rw [List.mem_cons] at h1 h2
      rcases h1 with h1 | h1
      · exact h1
      · rcases h2 with h2 | h2
        · exact h2.symm
        · have := hb.1 x h1
          have := ha.1 y h2
          omega
    subst e
    rw [rising_ext ha.2 hb.2 fun z => ?_]
    constructor
    · intro hz
      have h1 := (h z).mp (List.mem_cons_of_mem _ hz)
      rw [List.mem_cons] at h1
      rcases h1 with rfl | h1
      · have := ha.1 z hz
        omega
      · exact h1
    · intro hz
      have h1 := (h z).mpr (List.mem_cons_of_mem _ hz)
      rw [List.mem_cons] at h1
      rcases h1 with rfl | h1
      · have := hb.1 z hz
        omega
      · exact h1

/-! numbers within their bounds -/
def within (lo : Int) (hi : Option Int) (n : Int) : Bool := decide (lo ≤ n) && (match hi with | none => true | some h => decide (n ≤ h))
def optV (b : Option Int) : V := match b with | none => .non | some n => .int n
def spGood (K : PySem.W.Frag) (w : World) (B : Addr) : Sp := fun vs H Q _ => ∃ (kind : Str) (n lo : Int) (hi : Option Int) (t : Addr), vs = [.str kind, .int n] ∧ KDct K w B kind (.ref t) ∧ (∀ {H : Hp}, SqT K H t [.int lo, optV hi]) ∧ Q (.bl (within lo hi n)) H
def spNum : Sp := fun vs H Q _ => ∃ n : Int, vs = [.int n] ∧ Q (.bl true) H
theorem sc_p_is_number : FnScope ["thing"] ["thing"] (defScope s_p_is_number) :=
  ⟨rfl, rfl, rfl, by decide +kernel, rfl, by decide +kernel, by decide +kernel⟩
theorem ok_p_is_number (T : Tx P K mg w) : FnOk P w K mg base CX0 1 T.f_p_is_number T.d_p_is_number ["thing"] spNum := by
  refine T.F_p_is_number.ok sc_p_is_number (fun vs H Q E h => ?_) (fun cdv A outer s H vs Q E hr h => ?_)
  · obtain ⟨n, rfl, _⟩ := h
    rfl
  · obtain ⟨n, rfl, k⟩ := h
    refine ⟨_, (pss_one (ps_ret (pe_and (pe_callB (r := rIsi K) call_isi (by rfl) T.z_isinstance (by decide +kernel) (pa_cons (pv 0) (pa_cons (pe_bltn (v := .ty "int") rfl T.z_int (by decide +kernel) rfl) pa_nil))) (pe_one (pe_not (pe_callB (r := rIsi K) call_isi (by rfl) T.z_isinstance (by decide +kernel) (pa_cons (pv 0) (pa_cons (pe_bltn (v := .ty "bool") rfl T.z_bool (by decide +kernel) rfl) pa_nil)))))))), ?_⟩
    refine at_start (ρ' := [some _]) rfl ?_
    walk_at "z0"
    walk_at "z"
    exact k
theorem sc_p_is_good : FnScope ["kind", "number", "least", "greatest"] ["kind", "number"] (defScope s_p_is_good) :=
  ⟨rfl, rfl, rfl, by decide +kernel, rfl, by decide +kernel, by decide +kernel⟩
theorem ok_p_is_good (T : Tx P K mg w) : FnOk P w K mg base CX0 2 T.f_p_is_good T.d_p_is_good ["kind", "number"] (spGood K w T.B_BOUNDS) := by
  refine T.F_p_is_good.ok sc_p_is_good (fun vs H Q E h => ?_) (fun cdv A outer s H vs Q E hr h => ?_)
  · obtain ⟨kind, n, lo, hi, t, rfl, _⟩ := h
    rfl
  · obtain ⟨kind, n, lo, hi, t, rfl, hk, ht, k⟩ := h
    refine ⟨_, (pss_cons (ps_if (pt_not (pt_val (pe_call (ok_p_is_number T) (hr.mono (by decide)) rfl T.g_p_is_number T.F_p_is_number.kp T.b_p_is_number .nil pass0 (pa_cons (pv 1) pa_nil)))) (pss_one (ps_ret pe_bl)) pss_nil) (pss_cons (ps_asg (pe_ix (r := rIxD K w) ix_kdict (pe_glob (v := .ref T.B_BOUNDS) rfl T.g_BOUNDS rfl) (pv 0) (fun _ _ => rfl)) (pg_tup (by rfl) (pgs_cons (pg_name (i := 2) sc_p_is_good.nd rfl (Or.inl rfl)) (pgs_cons (pg_name (i := 3) sc_p_is_good.nd rfl (Or.inl rfl)) pgs_nil)))) (pss_one (ps_ret (pe_and (pe_cmpR op_le (pv 2) (pv 1) (nomark _)) (pe_one (pe_or (pe_cmpR op_isN1 (pv 3) pe_non (nomark _)) (pe_one (pe_cmpR op_le (pv 1) (pv 3) (nomark _)))))))))), ?_⟩
    refine at_start (ρ' := [some _, some _, none, none]) rfl ?_
    walk_at "z0"
    walk_at "z"
    refine ⟨n, rfl, ?_⟩
    walk_at "z"
    refine s_kix hk ?_
    refine s_gTup ht rfl ?_
    walk_at "z"
    by_cases h1 : lo ≤ n
    · refine ite_pos h1 ?_
      walk_at "z"
      unfold within at k
      rw [decide_eq_true h1, Bool.true_and] at k
      cases hi with
      | none =>
        refine ite_tE rfl ?_
        exact k
      | some m =>
        refine ite_fE rfl ?_
        walk_at "z"
        exact s_rI0 (a := n) (b := m) k
    · refine ite_neg h1 ?_
      unfold within at k
      rw [decide_eq_false h1, Bool.false_and] at k
      exact k
/-! defs that raise: what they leave where they do -/
theorem s_mkO {C : Addr} {sp : Sp} {dvs : List V} {ta : TA} {σ : L2.St} {H : Hp} {Q : XK} (k : ta σ H fun vs H1 => vs.length ≤ 1000 ∧ ∀ a, H1 a = none → sp (.ref a :: (vs ++ dvs)) (upd H1 a (exo a C none))
  (fun v H2 => v = .non ∧ ∃ (d : Addr) (fs : List (Str × V)), H2 a = some (exo a C (some d)) ∧ H2 d = some (exd d fs) ∧ H1 d = none ∧ Q (.ref C) (some d) (upd (del H2 a) d (.xd fs))) (fun _ _ _ => False)) : tMkO C sp dvs ta σ H Q := k
/-! which facts are good: the kinds of their things -/
def kindsOf : List Str := ["gate", "day", "toll", "trust", "carriage", "minute", "horses", "number", "payment"]
def wordsOf : List Str := ["toll", "board", "trust", "folk", "bargain", "pass", "lost", "paid", "", "Pass", "tolls", "gate", "pass "]
def shapeOf (z : Str) : Option (List Str) :=
  if z = "toll" then some ["gate", "day", "toll"] else if z = "board" then some ["gate", "day", "gates"] else if z = "trust" then some ["gate", "day", "trust"] else if z = "folk" then some ["carriage", "day", "day"]
  else if z = "bargain" then some ["gate", "carriage", "day", "day"] else if z = "pass" then some ["day", "minute", "gate", "carriage", "horses"] else if z = "lost" then some ["number", "minute"] else if z = "paid" then some ["carriage", "day", "payment"] else none
def bndOf (k : Str) : Int × Option Int :=
  if k = "gate" then (0, some 7) else if k = "day" then (0, some 999) else if k = "toll" then (0, some 48) else if k = "trust" then (0, some 3) else if k = "carriage" then (0, some 9) else if k = "minute" then (0, some 1439)
  else if k = "horses" then (1, some 8) else if k = "number" then (1, none) else if k = "payment" then (0, some 100000) else (0, none)
def riseOk (l : List Int) : Bool := l.all (within 0 (some 7)) && decide (l.Pairwise (· < ·))
def argOk (k : Str) : Arg → Bool
  | .i n => within (bndOf k).1 (bndOf k).2 n
  | .t l => riseOk l
/-- the place of the first wrong thing, from i on -/
def firstBad : Nat → List Str → List Arg → Option Nat
  | i, k :: ks, x :: xs => if argOk k x = true then firstBad (i + 1) ks xs else some i
  | _, _, _ => none
def placeF (f : Fct) : Option Nat := match shapeOf f.w with | none => some 0 | some ks => if ks.length = f.xs.length then firstBad 1 ks f.xs else some 0
/-- a thing is a tuple just where gates are due -/
def Suits (k : Str) : Arg → Prop
  | .i n => k ∈ kindsOf ∧ -(2 ^ 80) ≤ n ∧ n ≤ 10 ^ 30 - 1
  | .t l => k = "gates" ∧ l.length ≤ 60
structure Bent (f : Fct) : Prop where
  word : f.w ∈ wordsOf
  few : f.xs.length ≤ 8
  suits : ∀ ks, shapeOf f.w = some ks → ks.length = f.xs.length → ∀ (i : Nat) k x, ks[i]? = some k → f.xs[i]? = some x → Suits k x
theorem T_shape (T : Tx P K mg w) {z : Str} (hz : z ∈ wordsOf) : (∃ ks t, shapeOf z = some ks ∧ ks.length ≤ 5 ∧ KDct K w T.B_SHAPES z (.ref t) ∧ ∀ {H : Hp}, SqT K H t (ks.map V.str)) ∨ (shapeOf z = none ∧ KMiss K w T.B_SHAPES z) := by
  simp only [wordsOf, List.mem_cons, List.not_mem_nil, or_false] at hz
  rcases hz with rfl | rfl | rfl | rfl | rfl | rfl | rfl | rfl | rfl | rfl | rfl | rfl | rfl
  · exact .inl ⟨["gate", "day", "toll"], _, by decide +kernel, by decide, T.kd_SHAPES_toll, T.kt_SHAPES_toll⟩
  · exact .inl ⟨["gate", "day", "gates"], _, by decide +kernel, by decide, T.kd_SHAPES_board, T.kt_SHAPES_board⟩
  · exact .inl ⟨["gate", "day", "trust"], _, by decide +kernel, by decide, T.kd_SHAPES_trust, T.kt_SHAPES_trust⟩
  · exact .inl ⟨["carriage", "day", "day"], _, by decide +kernel, by decide, T.kd_SHAPES_folk, T.kt_SHAPES_folk⟩
  · exact .inl ⟨["gate", "carriage", "day", "day"], _, by decide +kernel, by decide, T.kd_SHAPES_bargain, T.kt_SHAPES_bargain⟩
  · exact .inl ⟨["day", "minute", "gate", "carriage", "horses"], _, by decide +kernel, by decide, T.kd_SHAPES_pass, T.kt_SHAPES_pass⟩
  · exact .inl ⟨["number", "minute"], _, by decide +kernel, by decide, T.kd_SHAPES_lost, T.kt_SHAPES_lost⟩
  · exact .inl ⟨["carriage", "day", "payment"], _, by decide +kernel, by decide, T.kd_SHAPES_paid, T.kt_SHAPES_paid⟩
  · exact .inr ⟨by decide +kernel, T.ms0_SHAPES⟩
  · exact .inr ⟨by decide +kernel, T.ms1_SHAPES⟩
  · exact .inr ⟨by decide +kernel, T.ms2_SHAPES⟩
  · exact .inr ⟨by decide +kernel, T.ms3_SHAPES⟩
  · exact .inr ⟨by decide +kernel, T.ms4_SHAPES⟩
theorem T_bnd (T : Tx P K mg w) {k : Str} (hk : k ∈ kindsOf) : ∃ t, KDct K w T.B_BOUNDS k (.ref t) ∧ ∀ {H : Hp}, SqT K H t [.int (bndOf k).1, optV (bndOf k).2] := by
  simp only [kindsOf, List.mem_cons, List.not_mem_nil, or_false] at hk
  rcases hk with rfl | rfl | rfl | rfl | rfl | rfl | rfl | rfl | rfl
  · exact ⟨_, T.kd_BOUNDS_gate, T.kt_BOUNDS_gate⟩
  · exact ⟨_, T.kd_BOUNDS_day, T.kt_BOUNDS_day⟩
  · exact ⟨_, T.kd_BOUNDS_toll, T.kt_BOUNDS_toll⟩
  · exact ⟨_, T.kd_BOUNDS_trust, T.kt_BOUNDS_trust⟩
  · exact ⟨_, T.kd_BOUNDS_carriage, T.kt_BOUNDS_carriage⟩
  · exact ⟨_, T.kd_BOUNDS_minute, T.kt_BOUNDS_minute⟩
  · exact ⟨_, T.kd_BOUNDS_horses, T.kt_BOUNDS_horses⟩
  · exact ⟨_, T.kd_BOUNDS_number, T.kt_BOUNDS_number⟩
  · exact ⟨_, T.kd_BOUNDS_payment, T.kt_BOUNDS_payment⟩
theorem eqvAll_il : ∀ a b : List Int, PyData.eqvAll (a.map PyData.int) (b.map PyData.int) = decide (a = b)
  | [], [] => rfl
  | [], _ :: _ => rfl
  | _ :: _, [] => rfl
  | x :: a, y :: b => by
    rw [List.map_cons, List.map_cons]
    unfold PyData.eqvAll
    rw [eqvAll_il a b]
    unfold PyData.eqv
    by_cases h : x = y <;> by_cases h2 : a = b <;> simp [h, h2]
theorem eqv_il (a b : List Int) : PyData.eqv (.list (a.map PyData.int)) (.list (b.map PyData.int)) = decide (a = b) := by
  unfold PyData.eqv
  exact eqvAll_il a b
theorem lay_ints : ∀ l : List Int, PyData.canLayAll0 (l.map PyData.int) = true ∧ PyData.depthAll (l.map PyData.int) ≤ 1
  | [] => ⟨rfl, by decide⟩
  | x :: l => by
    obtain ⟨h1, h2⟩ := lay_ints l
    rw [List.map_cons]
    refine ⟨by unfold PyData.canLayAll0; rw [h1]; rfl, ?_⟩
    unfold PyData.depthAll
    simp only [PyData.depth]
    omega
theorem shaped_ints (l : List Int) : SeqAt.shaped (.list (l.map PyData.int)) = true := by
  obtain ⟨h1, h2⟩ := lay_ints l
  unfold SeqAt.shaped
  rw [Bool.and_eq_true]
  refine ⟨h1, decide_eq_true ?_⟩
  unfold PyData.depth
  omega
theorem s_eqInts {H : Hp} {Q : VK} {p q : Addr} {a b : List Int} (h1 : SqL K H p (a.map V.int)) (h2 : SqL K H q (b.map V.int)) (k : Q (.bl (decide (a = b))) H) : rEqD K (.ref p) (.ref q) H Q :=
  ⟨_, _, .lst h1 (dp_ints _), .lst h2 (dp_ints _), shaped_ints _, shaped_ints _, by rw [eqv_il]; exact k⟩
theorem rise_iff {l ns : List Int} (h1 : ns.Pairwise (· < ·)) (h2 : ∀ x, x ∈ ns ↔ x ∈ l) : (l = ns) ↔ l.Pairwise (· < ·) :=
  ⟨fun e => by rw [e]; exact h1, fun h => rising_ext h h1 fun x => (h2 x).symm⟩
def spRise (K : PySem.W.Frag) : Sp := fun vs H Q _ => ∃ (a : Addr) (l : List Int), vs = [.str "gate", .ref a] ∧ SqT K H a (l.map V.int) ∧ l.length ≤ 60 ∧ ∀ H', Ex H H' → Q (.bl (riseOk l)) H'
theorem sc_p_are_rising : FnScope ["kind", "numbers", "number"] ["kind", "numbers"] (defScope s_p_are_rising) :=
  ⟨rfl, rfl, rfl, by decide +kernel, rfl, by decide +kernel, by decide +kernel⟩
theorem ok_p_are_rising (T : Tx P K mg w) : FnOk P w K mg base CX0 3 T.f_p_are_rising T.d_p_are_rising ["kind", "numbers"] (spRise K) := by
  refine T.F_p_are_rising.ok sc_p_are_rising (fun vs H Q E h => ?_) (fun cdv A outer s H vs Q E hr h => ?_)
  · obtain ⟨a, l, rfl, _⟩ := h
    rfl
  · obtain ⟨a, l, rfl, ha, hz, k⟩ := h
    refine ⟨_, (pss_cons (ps_if (pt_not (pt_val (pe_callB (r := rIsi K) call_isi (by rfl) T.z_isinstance (by decide +kernel) (pa_cons (pv 1) (pa_cons (pe_bltn (v := .ty "tuple") rfl T.z_tuple (by decide +kernel) rfl) pa_nil))))) (pss_one (ps_ret pe_bl)) pss_nil) (pss_cons (ps_if (pt_not (pt_val (pe_callB (r := rAll K) (cr_all rfl) (by rfl) T.z_all (by decide +kernel) (pa_cons (pe_lc (own := [("number", 2)]) (by rfl) sc_p_are_rising.nd (pi_tup (pv 1)) (blkOk_by (own := [("number", 2)]) (N := ["kind", "numbers", "number"]) (sc := defScope s_p_are_rising) (by decide +kernel)) (fun _ _ _ _ _ => (pg_name (i := 2) sc_p_are_rising.nd rfl (Or.inl rfl))) (fun _ _ _ _ _ => pts_nil) (fun _ _ _ _ _ => (pe_call (ok_p_is_good T) (hr.mono (by decide)) rfl T.g_p_is_good T.F_p_is_good.kp T.b_p_is_good .nil pass0 (pa_cons (pv 0) (pa_cons (pv 2) pa_nil))))) pa_nil)))) (pss_one (ps_ret pe_bl)) pss_nil) (pss_one (ps_ret (pe_cmpR (r := rEqD K) (op_eqD hr.units) (pe_callTy (r := rListOf K) cz_listOf (by rfl) T.z_list (by decide +kernel) (pa_cons (pv 1) pa_nil)) (pe_callB (cr_sortedSet rfl) (by rfl) T.z_sorted (by decide +kernel) (pa_cons (pe_callTy (cr_setT rfl) (by rfl) T.z_set (by decide +kernel) (pa_cons (pv 1) pa_nil)) pa_nil)) (nomark _)))))), ?_⟩
    refine at_start (ρ' := [some _, some _, none]) rfl ?_
    walk_at "z0"
    walk_at "z"
    refine c_tup (l.map V.int) ha (fun D H' => H D = none ∧ Ex H H') (fun D i acc H' => acc = (l.take i).map fun n => V.bl (within 0 (some 7) n)) (fun D H' n e _ => ⟨⟨n, e⟩, rfl⟩) (fun D H' Iv => Iv.2.sqT ha) (fun D i acc H1 x hx Iv hD hn r => ?_) (fun D acc H1 Iv hD hn r => ?_)
    · obtain ⟨nD, e1⟩ := Iv
      rw [List.getElem?_map] at hx
      obtain ⟨n, hn1, rfl⟩ := Option.map_eq_some_iff.mp hx
      have hi : i < l.length := (List.getElem?_eq_some_iff.mp hn1).1
      walk_at "z"
      refine ⟨rfl, ?_⟩
      walk_at "z"
      refine ⟨_, n, 0, some 7, _, rfl, T.kd_BOUNDS_gate, T.kt_BOUNDS_gate, ?_⟩
      refine c_put hD ⟨hn, by omega⟩ fun H3 f3 _ => ⟨⟨nD, e1.fr2 nD f3⟩, ?_⟩
      rw [r, List.take_succ, hn1, List.map_append]
      rfl
    · obtain ⟨nD, e1⟩ := Iv
      rw [List.length_map, List.take_length] at r
      walk_at "z"
      refine s_rAll (l.map (within 0 (some 7))) (SqL.of hD) (by rw [r, List.map_map]; rfl) ?_
      have hal : (l.map (within 0 (some 7))).all id = l.all (within 0 (some 7)) := by rw [List.all_map]; rfl
      rw [hal]
      refine ⟨_, rfl, ?_⟩
      cases hb : l.all (within 0 (some 7)) with
      | false =>
        walk_at "z"
        have := k H1 e1
        unfold riseOk at this
        rw [hb] at this
        exact this
      | true =>
        walk_at "z"
        rename_i p H2 np e2 hp
        refine Z.s_setOfT (e2.sqT (e1.sqT ha)) (show l.length + 1 < 4096 by omega) fun q S m H3 nq e3 hq hm hS => ?_
        walk_at "z"
        refine s_sortedSet hq (by omega) fun ns r2 H4 hns hns2 hl4 _ e4 hr4 => ?_
        refine s_eqInts (SqL.of (e4 _ _ (e3 _ _ hp))) (SqL.of hr4) ?_
        have := k H4 (((e1.trans e2).trans e3).trans e4)
        unfold riseOk at this
        rw [hb, Bool.true_and] at this
        rw [show decide (l = ns) = decide (l.Pairwise (· < ·)) from decide_eq_decide.mpr (rise_iff hns fun x => (hns2 x).trans (hS x))]
        exact this
/-- a fact is let by, or it is refused with the place of the first wrong thing -/
def spNeedF (K : PySem.W.Frag) (C : Addr) : Sp := fun vs H Q E => ∃ (v : V) (f : Fct), vs = [v] ∧ RF K H v f ∧ Bent f ∧ (placeF f = none → ∀ H', Ex H H' → Q .non H') ∧
  ∀ p, placeF f = some p → ∀ H' d, Ex H H' → H' d = none → E (.ref C) (some d) (upd H' d (.xd [("place", .int (p : Nat)), ("called", .str "BadFact")]))
/-- from the i-th thing on, all ahead being good -/
theorem firstBad_drop {ks : List Str} {xs : List Arg} {i : Nat} {k : Str} {x : Arg} (hk : ks[i]? = some k) (hx : xs[i]? = some x) : firstBad (i + 1) (ks.drop i) (xs.drop i) = if argOk k x = true then firstBad (i + 2) (ks.drop (i + 1)) (xs.drop (i + 1)) else some (i + 1) := by
  obtain ⟨h1, h2⟩ := List.getElem?_eq_some_iff.mp hk
  obtain ⟨h3, h4⟩ := List.getElem?_eq_some_iff.mp hx
  rw [List.drop_eq_getElem_cons h1, List.drop_eq_getElem_cons h3, h2, h4]
  rfl
theorem fds_get {H : Hp} : ∀ {vs : List V} {xs : List Arg} {i : Nat} {x : Arg}, FDs K H vs xs → xs[i]? = some x → ∃ v, vs[i]? = some v ∧ FD K H v x
  | _, _, 0, _, .cons h _, e => by
    cases e
    exact ⟨_, rfl, h⟩
  | _, _, i + 1, _, .cons _ r, e => fds_get (i := i) r (by simpa using e)
theorem fds_len {H : Hp} : ∀ {vs : List V} {xs : List Arg}, FDs K H vs xs → vs.length = xs.length
  | _, _, .nil => rfl
  | _, _, .cons _ r => congrArg Nat.succ (fds_len r)
theorem sc_p_need_fact : FnScope ["fact", "kinds", "place", "kind", "thing", "good"] ["fact"] (defScope s_p_need_fact) :=
  ⟨rfl, rfl, rfl, by decide +kernel, rfl, by decide +kernel, by decide +kernel⟩
theorem ok_p_need_fact (T : Tx P K mg w) : FnOk P w K mg base (L2N.CX P w) 4 T.f_p_need_fact T.d_p_need_fact ["fact"] (spNeedF K T.C_BadFact) := by
  refine L2H.okXN T.F_p_need_fact sc_p_need_fact (fun vs H Q E h => ?_) (fun cdv A outer s H vs Q E hr h => ?_)
  · obtain ⟨v, f, rfl, _⟩ := h
    rfl
  · obtain ⟨v, f, rfl, rf, bt, kg, kb⟩ := h
    obtain ⟨a, us, rfl, ha, hu⟩ := id rf
    have hul := fds_len hu
    have hf8 := bt.few
    refine ⟨_, (pss_cons (ps_set (i := 1) sc_p_need_fact.nd rfl (Or.inl rfl) (pe_kget (pe_glob (v := .ref T.B_SHAPES) rfl T.g_SHAPES rfl) (pe_ix (r := rIxT K) ix_tup (pv 0) pe_int (fun _ _ => rfl)) (by constructor <;> rfl))) (pss_cons (ps_if (PW.pt (pw_or (pt_cmpR op_isN1 (pv 1) pe_non (nomark _)) (pw_or1 (pt_cmpR op_ne (pe_callB (r := Z.rLen K) cz_len (by rfl) T.z_len PySem.boot_len (pa_cons (pv 0) pa_nil)) (pe_op op_add (pe_callB (r := Z.rLen K) cz_len (by rfl) T.z_len PySem.boot_len (pa_cons (pv 1) pa_nil)) pe_int) (nomark _))))) (pss_one (L2N.ps_raise rfl (L2N.takes_of rfl rfl rfl rfl) (L2H.pmk_oxN T.pk_BadFact.ox T.in_BadFact T.FS_c_BadFact_init.ty (ok_c_BadFact_init T) (hr.mono (by decide)) T.b_c_BadFact_init .nil pass0 rfl T.g_BadFact (pa_cons pe_int pa_nil)))) pss_nil) (pss_one (ps_for (passes_of rfl) rfl (pi_count (by rfl) T.z_enumerate (pa_cons (pv 1) pa_nil) (pk_cons pe_int pk_nil) (by decide)) (pg_tup (by rfl) (pgs_cons (pg_name (i := 2) sc_p_need_fact.nd rfl (Or.inl rfl)) (pgs_cons (pg_name (i := 3) sc_p_need_fact.nd rfl (Or.inl rfl)) pgs_nil))) (pss_cons (ps_set (i := 4) sc_p_need_fact.nd rfl (Or.inl rfl) (pe_ix (r := rIxT K) ix_tup (pv 0) (pv 2) (fun _ _ => rfl))) (pss_cons (ps_set (i := 5) sc_p_need_fact.nd rfl (Or.inl rfl) (pe_ifExp (pt_cmpR op_eq (pv 3) pe_str (nomark _)) (pe_call (ok_p_are_rising T) (hr.mono (by decide)) rfl T.g_p_are_rising T.F_p_are_rising.kp T.b_p_are_rising .nil pass0 (pa_cons pe_str (pa_cons (pv 4) pa_nil))) (pe_call (ok_p_is_good T) (hr.mono (by decide)) rfl T.g_p_is_good T.F_p_is_good.kp T.b_p_is_good .nil pass0 (pa_cons (pv 3) (pa_cons (pv 4) pa_nil))))) (pss_one (ps_if (pt_not (pt_val (pv 5))) (pss_one (L2N.ps_raise rfl (L2N.takes_of rfl rfl rfl rfl) (L2H.pmk_oxN T.pk_BadFact.ox T.in_BadFact T.FS_c_BadFact_init.ty (ok_c_BadFact_init T) (hr.mono (by decide)) T.b_c_BadFact_init .nil pass0 rfl T.g_BadFact (pa_cons (pv 2) pa_nil)))) pss_nil)))))))), ?_⟩
    refine at_start (ρ' := [some _, none, none, none, none, none]) rfl ?_
    walk_at "z0"
    walk_at "z"
    refine s_kget ?_
    walk_at "z"
    refine ⟨_, rfl, T.dic_SHAPES, ?_⟩
    walk_at "z"
    refine s_ixT ha (at0 _ _) ?_
    rcases T_shape T bt.word with ⟨ks, t, hs, h5, hk, ht⟩ | ⟨hs, hk⟩
    · refine ⟨_, rfl, .inl ⟨_, hk, ?_⟩⟩
      have ht0 : SqT K H t (ks.map V.str) := ht
      walk_at "z"
      rw [List.length_map, List.length_cons, hul]
      by_cases hl : ks.length = f.xs.length
      · have p1 : placeF f = firstBad 1 ks f.xs := by
          unfold placeF
          rw [hs]
          dsimp only
          rw [if_pos hl]
        refine ite_nneg (by omega) ?_
        walk_at "z"
        refine s_iCnt ?_
        walk_at "z"
        refine l_cnt (ks.map V.str) (fun i σ H' => ∃ v2 v3 v4 v5, σ = [some (.ref a), some (.ref t), v2, v3, v4, v5] ∧ Ex H H' ∧ placeF f = firstBad (i + 1) (ks.drop i) (f.xs.drop i)) ⟨_, _, _, _, rfl, Ex.refl, p1⟩ (fun i σ H' _ h => ht) (fun i x t2 σ H1 H2 hi h nt e2 ht2 => ?_) (fun σ H' h => ?_)
        · obtain ⟨v2, v3, v4, v5, rfl, e1, pi⟩ := h
          rw [List.getElem?_map] at hi
          obtain ⟨k, hk1, rfl⟩ := Option.map_eq_some_iff.mp hi
          have hik : i < ks.length := (List.getElem?_eq_some_iff.mp hk1).1
          obtain ⟨x0, hx0⟩ : ∃ x0, f.xs[i]? = some x0 := ⟨_, List.getElem?_eq_getElem (by omega)⟩
          obtain ⟨u, hu1, fd⟩ := fds_get hu hx0
          have st := bt.suits ks hs hl i k x0 hk1 hx0
          rw [firstBad_drop hk1 hx0] at pi
          have e3 := e1.trans e2
          have ha2 := e3.sqT ha
          have cast : (1 : Int) + (i : Int) = ((i + 1 : Nat) : Int) := by omega
          walk_at "z"
          rw [cast]
          refine s_ixT ha2 (atI_nat (xs := V.str f.w :: us) (j := i + 1) (by simpa using hu1)) ?_
          walk_at "z"
          cases fd with
          | i n =>
            obtain ⟨hkk, _, _⟩ := st
            have hng : k ≠ "gates" := fun z => by
              rw [z] at hkk
              exact absurd hkk (by decide +kernel)
            rw [decide_eq_false hng]
            walk_at "z"
            obtain ⟨tb, hb1, hb2⟩ := T_bnd T hkk
            refine ⟨_, n, _, _, tb, rfl, hb1, hb2, ?_⟩
            walk_at "z"
            have ea : argOk k (.i n) = within (bndOf k).1 (bndOf k).2 n := rfl
            rw [← ea]
            cases hok : argOk k (.i n) with
            | true =>
              rw [hok] at pi
              walk_at "z"
              exact ⟨_, _, _, _, rfl, e3, pi⟩
            | false =>
              rw [hok] at pi
              walk_at "z"
              refine s_mkO ?_
              walk_at "z"
              exact use_place T.pk_BadFact T.sc_BadFact T.so_BadFact T.no_BadFact (log_small (by omega) (by omega)) fun d hd => kb (i + 1) pi H2 d e3 hd
          | t hq =>
            rename_i q l
            obtain ⟨rfl, hl60⟩ := st
            walk_at "z"
            refine ⟨q, l, rfl, e3.sqT hq, hl60, fun H3 e4 => ?_⟩
            walk_at "z"
            have ea : argOk "gates" (.t l) = riseOk l := rfl
            rw [← ea]
            cases hok : argOk "gates" (.t l) with
            | true =>
              rw [hok] at pi
              walk_at "z"
              exact ⟨_, _, _, _, rfl, e3.trans e4, pi⟩
            | false =>
              rw [hok] at pi
              walk_at "z"
              refine s_mkO ?_
              walk_at "z"
              exact use_place T.pk_BadFact T.sc_BadFact T.so_BadFact T.no_BadFact (log_small (by omega) (by omega)) fun d hd => kb (i + 1) pi H3 d (e3.trans e4) hd
        · obtain ⟨v2, v3, v4, v5, rfl, e1, pi⟩ := h
          rw [List.length_map, List.drop_length] at pi
          exact kg pi H' e1
      · have p0 : placeF f = some 0 := by
          unfold placeF
          rw [hs]
          dsimp only
          rw [if_neg hl]
        refine ite_npos (by omega) ?_
        refine s_mkO ?_
        walk_at "z"
        exact use_place T.pk_BadFact T.sc_BadFact T.so_BadFact T.no_BadFact (by decide) fun d hd => kb 0 p0 H d Ex.refl hd
    · refine ⟨_, rfl, .inr ⟨hk, ?_⟩⟩
      walk_at "z"
      have p0 : placeF f = some 0 := by
        unfold placeF
        rw [hs]
      refine s_mkO ?_
      walk_at "z"
      exact use_place T.pk_BadFact T.sc_BadFact T.so_BadFact T.no_BadFact (by decide) fun d hd => kb 0 p0 H d Ex.refl hd

/-! the law's own reading of a fact -/
def placeI (f : Fct) : Int := match placeF f with | none => -1 | some p => (p : Nat)
def spPlaceL (K : PySem.W.Frag) : Sp := fun vs H Q _ => ∃ (v : V) (f : Fct), vs = [v] ∧ RF K H v f ∧ Bent f ∧ ∀ H', Ex H H' → Q (.int (placeI f)) H'
theorem s_pairC {z : Str} {tv : TE} {r : List (TE × TE)} {σ : L2.St} {H : Hp} {Q : List (V × V) → Hp → Prop} (k : tv σ H fun y H2 => tPairs r σ H2 fun ps H3 => Q ((.str z, y) :: ps) H3) : tPairs ((tC (.str z), tv) :: r) σ H Q := k
theorem s_pairN {σ : L2.St} {H : Hp} {Q : List (V × V) → Hp → Prop} (k : Q [] H) : tPairs [] σ H Q := k
theorem putK_new {kvs : List (Key × V)} {k : Key} {v : V} (h : k ∉ kvs.map (·.1)) : putK kvs k v = kvs ++ [(k, v)] := by
  unfold putK
  rw [if_neg]
  intro q
  obtain ⟨p, hp, e⟩ := List.any_eq_true.mp q
  exact h (List.mem_map.mpr ⟨p, hp, of_decide_eq_true e⟩)
theorem mergeK_new : ∀ {more kvs : List (Key × V)}, (kvs.map (·.1) ++ more.map (·.1)).Nodup → mergeK kvs more = kvs ++ more
  | [], kvs, _ => by rw [List.append_nil]; rfl
  | p :: r, kvs, h => by
    have h1 : p.1 ∉ kvs.map (·.1) := fun q => by
      have := (List.nodup_append.mp h).2.2 _ q p.1 (by simp)
      exact this rfl
    show mergeK (putK kvs p.1 p.2) r = _
    rw [putK_new h1, mergeK_new (by simpa using h)]
    simp
theorem s_dgetS {a : Addr} {z : Str} {kvs : List (Key × V)} {v : V} {H : Hp} {Q : VK} (h : H a = some (.dK kvs)) (e : valV kvs (Sum.inr z) = some v) (k : Q v H) : DGetR (.ref a) (.str z) H Q := ⟨a, v, rfl, by rw [← e]; exact DGet.k (k := Sum.inr z) h, k⟩
theorem s_dnotinS {a : Addr} {z : Str} {kvs : List (Key × V)} {H : Hp} {Q : VK} (h : H a = some (.dK kvs)) (k : Q (.bl (!(valV kvs (Sum.inr z)).isSome)) H) : DNotInR (.str z) (.ref a) H Q := ⟨a, _, rfl, DGet.k (k := Sum.inr z) h, k⟩
/-- the gates below j that stand in l, rising -/
def gatesIn (l : List Int) : Nat → List Int
  | 0 => []
  | j + 1 => if (j : Int) ∈ l then gatesIn l j ++ [(j : Int)] else gatesIn l j
theorem gatesIn_succ (l : List Int) (j : Nat) : gatesIn l (j + 1) = if (j : Int) ∈ l then gatesIn l j ++ [(j : Int)] else gatesIn l j := rfl
theorem gatesIn_mem (l : List Int) : ∀ (j : Nat) (x : Int), x ∈ gatesIn l j ↔ x ∈ l ∧ 0 ≤ x ∧ x < j
  | 0, x => by
    simp only [gatesIn, List.not_mem_nil, false_iff]
    omega
  | j + 1, x => by
    rw [gatesIn_succ]
    have ih := gatesIn_mem l j x
    split
    · rename_i h
      rw [List.mem_append, ih, List.mem_singleton]
      constructor
      · rintro (⟨a, b, c⟩ | rfl)
        · exact ⟨a, b, by omega⟩
        · exact ⟨h, by omega, by omega⟩
      · rintro ⟨a, b, c⟩
        by_cases e : x = j
        · exact .inr e
        · exact .inl ⟨a, b, by omega⟩
    · rename_i h
      rw [ih]
      constructor
      · rintro ⟨a, b, c⟩
        exact ⟨a, b, by omega⟩
      · rintro ⟨a, b, c⟩
        refine ⟨a, b, ?_⟩
        have : x ≠ j := fun z => h (z ▸ a)
        omega
theorem gatesIn_rise (l : List Int) : ∀ j : Nat, (gatesIn l j).Pairwise (· < ·)
  | 0 => List.Pairwise.nil
  | j + 1 => by
    rw [gatesIn_succ]
    split
    · refine List.pairwise_append.mpr ⟨gatesIn_rise l j, List.pairwise_singleton _ _, fun x hx y hy => ?_⟩
      rw [List.mem_singleton] at hy
      have := ((gatesIn_mem l j x).mp hx).2.2
      omega
    · exact gatesIn_rise l j
theorem within_gate (x : Int) : within 0 (some 7) x = true ↔ 0 ≤ x ∧ x ≤ 7 := by
  unfold within
  simp
theorem rise_law (l : List Int) : decide (l = gatesIn l (8 : Int).toNat) = argOk "gates" (.t l) := by
  show decide (l = gatesIn l 8) = riseOk l
  unfold riseOk
  by_cases h : l = gatesIn l 8
  · rw [decide_eq_true h]
    have h1 : l.all (within 0 (some 7)) = true := List.all_eq_true.mpr fun x hx => by
      rw [h] at hx
      have := (gatesIn_mem l 8 x).mp hx
      exact (within_gate x).mpr ⟨this.2.1, by omega⟩
    have h2 : l.Pairwise (· < ·) := by rw [h]; exact gatesIn_rise l 8
    rw [h1, decide_eq_true h2]
    rfl
  · rw [decide_eq_false h]
    cases h1 : l.all (within 0 (some 7)) with
    | false => rfl
    | true =>
      rw [Bool.true_and]
      refine (decide_eq_false (p := l.Pairwise (· < ·)) fun h2 => h (rising_ext h2 (gatesIn_rise l 8) fun x => ?_)).symm
      rw [gatesIn_mem]
      refine ⟨fun hx => ?_, fun hx => hx.1⟩
      have := (within_gate x).mp (List.all_eq_true.mp h1 x hx)
      exact ⟨hx, this.1, by omega⟩
theorem flat_intsP (l : List Int) : (l.map V.int).all flatV = true := List.all_eq_true.mpr fun x hx => by
  obtain ⟨n, _, rfl⟩ := List.mem_map.mp hx
  rfl
theorem inV_intsP (x : Int) (gs : List Int) : inV (.int x) (gs.map V.int) = decide (x ∈ gs) := by
  unfold inV
  rw [List.any_map]
  induction gs with
  | nil => rfl
  | cons y gs ih =>
    rw [List.any_cons, ih]
    show ((y == x) || _) = _
    by_cases h : y = x
    · subst h
      simp
    · have : ¬ x = y := fun z => h z.symm
      simp [h, this]
theorem s_neInts {H : Hp} {Q : VK} {p q : Addr} {a b : List Int} (h1 : SqL K H p (a.map V.int)) (h2 : SqL K H q (b.map V.int)) (k : Q (.bl (!decide (a = b))) H) : rNeD K (.ref p) (.ref q) H Q :=
  ⟨_, _, .lst h1 (dp_ints _), .lst h2 (dp_ints _), shaped_ints _, shaped_ints _, by rw [eqv_il]; exact k⟩
/-- the letter that the law has for a kind -/
def letterOf (k : Str) : Nat := if k = "gate" then 103 else if k = "day" then 100 else if k = "toll" then 104 else if k = "trust" then 116 else if k = "carriage" then 99 else if k = "minute" then 109 else if k = "horses" then 111 else if k = "number" then 110 else if k = "payment" then 112 else 98
def lettersOf (ks : List Str) : Str := ⟨(ks.map letterOf).toArray⟩
def lawKinds : List (Key × V) := [(.inr "toll", .str "gdh"), (.inr "board", .str "gdb"), (.inr "trust", .str "gdt"), (.inr "folk", .str "cdd"), (.inr "bargain", .str "gcdd"), (.inr "pass", .str "dmgco"), (.inr "lost", .str "nm"), (.inr "paid", .str "cdp")]
theorem valV_no {α : Type} [DecidableEq α] {p : α × V} {r : List (α × V)} {k : α} {o : Option V} (e : ¬ p.1 = k) (h : valV r k = o) : valV (p :: r) k = o := by rw [valV_neg e]; exact h
theorem valV_posK {k k' : Key} {v : V} {r : List (Key × V)} (e : k' = k) : valV ((k', v) :: r) k = some v := valV_pos (p := (k', v)) e
theorem valV_noK {k k' : Key} {v : V} {r : List (Key × V)} {o : Option V} (e : ¬ k' = k) (h : valV r k = o) : valV ((k', v) :: r) k = o := valV_no (p := (k', v)) e h
theorem letter_ne {k : Str} (hk : k ∈ kindsOf) : (⟨#[letterOf k]⟩ : Str) ≠ "b" := by
  simp only [kindsOf, List.mem_cons, List.not_mem_nil, or_false] at hk
  rcases hk with rfl | rfl | rfl | rfl | rfl | rfl | rfl | rfl | rfl <;> decide +kernel
theorem kinds_of {z : Str} (hz : z ∈ wordsOf) : (∀ ks, shapeOf z = some ks → valV lawKinds (Sum.inr z) = some (.str (lettersOf ks)) ∧ ks.length ≤ 5 ∧ ∀ k ∈ ks, k ∈ kindsOf ∨ k = "gates") ∧ (shapeOf z = none → valV lawKinds (Sum.inr z) = none) := by
  simp only [wordsOf, List.mem_cons, List.not_mem_nil, or_false] at hz
  have pos : ∀ (z : Str) (ks : List Str) (l : Str), shapeOf z = some ks → l = lettersOf ks → valV lawKinds (Sum.inr z) = some (.str l) → (ks.length ≤ 5 ∧ ∀ k ∈ ks, k ∈ kindsOf ∨ k = "gates") →
      (∀ ks, shapeOf z = some ks → valV lawKinds (Sum.inr z) = some (.str (lettersOf ks)) ∧ ks.length ≤ 5 ∧ ∀ k ∈ ks, k ∈ kindsOf ∨ k = "gates") ∧ (shapeOf z = none → valV lawKinds (Sum.inr z) = none) := by
    intro z ks l h1 h2 h3 h4
    refine ⟨fun ks' h => ?_, fun h => by rw [h1] at h; cases h⟩
    rw [h1] at h
    cases h
    rw [← h2]
    exact ⟨h3, h4⟩
  have neg : ∀ (z : Str), shapeOf z = none → valV lawKinds (Sum.inr z) = none →
      (∀ ks, shapeOf z = some ks → valV lawKinds (Sum.inr z) = some (.str (lettersOf ks)) ∧ ks.length ≤ 5 ∧ ∀ k ∈ ks, k ∈ kindsOf ∨ k = "gates") ∧ (shapeOf z = none → valV lawKinds (Sum.inr z) = none) := fun z h1 h2 => ⟨fun ks h => (by rw [h1] at h; cases h), fun _ => h2⟩
  rcases hz with rfl | rfl | rfl | rfl | rfl | rfl | rfl | rfl | rfl | rfl | rfl | rfl | rfl
  · exact pos _ ["gate", "day", "toll"] "gdh" (by decide +kernel) (by decide +kernel) (by repeat (first | exact valV_pos rfl | refine valV_no (by decide +kernel) ?_)) (by decide +kernel)
  · exact pos _ ["gate", "day", "gates"] "gdb" (by decide +kernel) (by decide +kernel) (by repeat (first | exact valV_pos rfl | refine valV_no (by decide +kernel) ?_)) (by decide +kernel)
  · exact pos _ ["gate", "day", "trust"] "gdt" (by decide +kernel) (by decide +kernel) (by repeat (first | exact valV_pos rfl | refine valV_no (by decide +kernel) ?_)) (by decide +kernel)
  · exact pos _ ["carriage", "day", "day"] "cdd" (by decide +kernel) (by decide +kernel) (by repeat (first | exact valV_pos rfl | refine valV_no (by decide +kernel) ?_)) (by decide +kernel)
  · exact pos _ ["gate", "carriage", "day", "day"] "gcdd" (by decide +kernel) (by decide +kernel) (by repeat (first | exact valV_pos rfl | refine valV_no (by decide +kernel) ?_)) (by decide +kernel)
  · exact pos _ ["day", "minute", "gate", "carriage", "horses"] "dmgco" (by decide +kernel) (by decide +kernel) (by repeat (first | exact valV_pos rfl | refine valV_no (by decide +kernel) ?_)) (by decide +kernel)
  · exact pos _ ["number", "minute"] "nm" (by decide +kernel) (by decide +kernel) (by repeat (first | exact valV_pos rfl | refine valV_no (by decide +kernel) ?_)) (by decide +kernel)
  · exact pos _ ["carriage", "day", "payment"] "cdp" (by decide +kernel) (by decide +kernel) (by repeat (first | exact valV_pos rfl | refine valV_no (by decide +kernel) ?_)) (by decide +kernel)
  all_goals exact neg _ (by decide +kernel) (by repeat (first | exact valV_nil | refine valV_no (by decide +kernel) ?_))
/-- the law's limits as they lie -/
structure Lims (K : PySem.W.Frag) (H : Hp) (lims : List (Key × V)) : Prop where
  at_ : ∀ k ∈ kindsOf, ∃ t hi, valV lims (Sum.inr ⟨#[letterOf k]⟩) = some (.ref t) ∧ SqT K H t [.int (bndOf k).1, .int hi] ∧ ∀ n, -(2 ^ 80) ≤ n → n ≤ 10 ^ 30 - 1 → decide ((bndOf k).1 ≤ n ∧ n ≤ hi) = within (bndOf k).1 (bndOf k).2 n
theorem Lims.ex {H H' : Hp} {lims : List (Key × V)} (h : Lims K H lims) (e : Ex H H') : Lims K H' lims := ⟨fun k hk => by
  obtain ⟨t, hi, h1, h2, h3⟩ := h.at_ k hk
  exact ⟨t, hi, h1, e.sqT h2, h3⟩⟩
theorem within_some {lo hi n : Int} : decide (lo ≤ n ∧ n ≤ hi) = within lo (some hi) n := by
  unfold within
  by_cases h1 : lo ≤ n <;> by_cases h2 : n ≤ hi <;> simp [h1, h2]
theorem sqT_updK {H : Hp} {D p : Addr} {kvs : List (Key × V)} {o : HO} {xs : List V} (hD : H D = some (.dK kvs)) (h : SqT K H p xs) : SqT K (upd H D o) p xs := by
  rcases h with (h | ⟨o2, h⟩) | h
  · exact .inl (.inl (by rw [upd_ne (ne_of h hD (fun z => by cases z))]; exact h))
  · exact .inl (.inr ⟨o2, by rw [upd_ne (ne_of h hD (fun z => by cases z))]; exact h⟩)
  · exact .inr h
theorem sc_l_fact_place : FnScope ["_law_fact_here", "_law_kinds", "_law_limits", "_law_at", "_law_kind", "_law_gate_here"] ["_law_fact_here"] (defScope s_l_fact_place) :=
  ⟨rfl, rfl, rfl, by decide +kernel, rfl, by decide +kernel, by decide +kernel⟩
theorem ok_l_fact_place (T : Tx P K mg w) : FnOk P w K mg base CX0 1 T.f_l_fact_place T.d_l_fact_place ["_law_fact_here"] (spPlaceL K) := by
  refine T.F_l_fact_place.ok sc_l_fact_place (fun vs H Q E h => ?_) (fun cdv A outer s H vs Q E hr h => ?_)
  · obtain ⟨v, f, rfl, _⟩ := h
    rfl
  · obtain ⟨v, f, rfl, rf, bt, k⟩ := h
    obtain ⟨a, us, rfl, ha, hu⟩ := id rf
    have hul := fds_len hu
    have hf8 := bt.few
    refine ⟨_, (pss_cons (ps_set (i := 1) sc_l_fact_place.nd rfl (Or.inl rfl) (pe_disp (pps_cons pe_str pe_str (pps_cons pe_str pe_str (pps_cons pe_str pe_str (pps_cons pe_str pe_str (pps_cons pe_str pe_str pps_nil))))) rfl rfl (by simp) (by decide))) (pss_cons (ps_expr (pe_dupd (pv 1) (pe_disp (pps_cons pe_str pe_str (pps_cons pe_str pe_str (pps_cons pe_str pe_str pps_nil))) rfl rfl (by simp) (by decide)) (by constructor <;> rfl))) (pss_cons (ps_set (i := 2) sc_l_fact_place.nd rfl (Or.inl rfl) (pe_disp (pps_cons pe_str (pe_tup (pa_cons pe_int (pa_cons pe_int pa_nil))) (pps_cons pe_str (pe_tup (pa_cons pe_int (pa_cons pe_int pa_nil))) (pps_cons pe_str (pe_tup (pa_cons pe_int (pa_cons pe_int pa_nil))) (pps_cons pe_str (pe_tup (pa_cons pe_int (pa_cons pe_int pa_nil))) (pps_cons pe_str (pe_tup (pa_cons pe_int (pa_cons pe_int pa_nil))) (pps_cons pe_str (pe_tup (pa_cons pe_int (pa_cons pe_int pa_nil))) (pps_cons pe_str (pe_tup (pa_cons pe_int (pa_cons pe_int pa_nil))) pps_nil))))))) rfl rfl (by simp) (by decide))) (pss_cons (ps_expr (pe_dupd (pv 2) (pe_disp (pps_cons pe_str (pe_tup (pa_cons pe_int (pa_cons pe_int pa_nil))) (pps_cons pe_str (pe_tup (pa_cons pe_int (pa_cons (pe_op op_pow pe_int pe_int) pa_nil))) pps_nil)) rfl rfl (by simp) (by decide)) (by constructor <;> rfl))) (pss_cons (ps_if (PW.pt (pw_or (pt_cmp (pc_dnotin (hu_of hr) (pe_ix (r := rIxT K) ix_tup (pv 0) pe_int (fun _ _ => rfl)) (pv 1))) (pw_or1 (pt_cmpR op_ne (pe_callB (r := Z.rLen K) cz_len (by rfl) T.z_len PySem.boot_len (pa_cons (pv 0) pa_nil)) (pe_op op_add pe_int (pe_callB cz_lenStr (by rfl) T.z_len PySem.boot_len (pa_cons (pe_dget (hu_of hr) (pv 1) (pe_ix (r := rIxT K) ix_tup (pv 0) pe_int (fun _ _ => rfl)) (fun _ _ => rfl)) pa_nil))) (nomark _))))) (pss_one (ps_ret pe_int)) pss_nil) (pss_cons (ps_for PassesOwn.never rfl (pi_range2 (by rfl) T.z_range (pa_cons pe_int (pa_cons (pe_callB (r := Z.rLen K) cz_len (by rfl) T.z_len PySem.boot_len (pa_cons (pv 0) pa_nil)) pa_nil))) (pg_name (i := 3) sc_l_fact_place.nd rfl (Or.inr rfl)) (pss_cons (ps_set (i := 4) sc_l_fact_place.nd rfl (Or.inl rfl) (pe_ix ix_str (pe_dget (hu_of hr) (pv 1) (pe_ix (r := rIxT K) ix_tup (pv 0) pe_int (fun _ _ => rfl)) (fun _ _ => rfl)) (pe_op op_sub (pv 3) pe_int) (fun _ _ => rfl))) (pss_one (ps_if (pt_cmpR op_eq (pv 4) pe_str (nomark _)) (pss_one (ps_if (pt_cmpR (r := rNeD K) (op_neD hr.units) (pe_callTy (r := rListOf K) cz_listOf (by rfl) T.z_list (by decide +kernel) (pa_cons (pe_ix (r := rIxT K) ix_tup (pv 0) (pv 3) (fun _ _ => rfl)) pa_nil)) (pe_lc (own := [("_law_gate_here", 5)]) (by rfl) sc_l_fact_place.nd (pi_range1 (by rfl) T.z_range (pa_cons pe_int pa_nil)) (blkOk_by (own := [("_law_gate_here", 5)]) (N := ["_law_fact_here", "_law_kinds", "_law_limits", "_law_at", "_law_kind", "_law_gate_here"]) (sc := defScope s_l_fact_place) (by decide +kernel)) (fun _ _ _ _ _ => (pg_name (i := 5) sc_l_fact_place.nd rfl (Or.inl rfl))) (fun _ _ _ _ _ => (pts_one (pt_cmpR (r := rIn K false) op_in_seq (pv 5) (pe_ix (r := rIxT K) ix_tup (pv 0) (pv 3) (fun _ _ => rfl)) (by rfl)))) (fun _ _ _ _ _ => (pv 5))) (nomark _)) (pss_one (ps_ret (pv 3))) pss_nil)) (pss_one (ps_if (pt_not (pt_chain op_le op_le (pe_ix (r := rIxT K) ix_tup (pe_dget (hu_of hr) (pv 2) (pv 4) (fun _ _ => rfl)) pe_int (fun _ _ => rfl)) (pe_ix (r := rIxT K) ix_tup (pv 0) (pv 3) (fun _ _ => rfl)) (pe_ix (r := rIxT K) ix_tup (pe_dget (hu_of hr) (pv 2) (pv 4) (fun _ _ => rfl)) pe_int (fun _ _ => rfl)))) (pss_one (ps_ret (pv 3))) pss_nil)))))) (pss_one (ps_ret (pe_un un_neg pe_int))))))))), ?_⟩
    refine at_start (ρ' := [some _, none, none, none, none, none]) rfl ?_
    walk_at "z0"
    walk_at "z"
    intro D1 n1
    repeat (refine s_pairC ?_; walk_at "z")
    refine s_pairN ⟨upd_same, [(.inr "toll", .str "gdh"), (.inr "board", .str "gdb"), (.inr "trust", .str "gdt"), (.inr "folk", .str "cdd"), (.inr "bargain", .str "gcdd")], rfl, by decide, ?_⟩
    rw [mergeK_new (by decide +kernel), List.nil_append]
    have e1 : Ex H (upd (upd H D1 (.dK [])) D1 (.dK [(.inr "toll", .str "gdh"), (.inr "board", .str "gdb"), (.inr "trust", .str "gdt"), (.inr "folk", .str "cdd"), (.inr "bargain", .str "gcdd")])) := (Ex.new n1).mut n1
    generalize hH1 : upd (upd H D1 (.dK [])) D1 (.dK [(.inr "toll", .str "gdh"), (.inr "board", .str "gdb"), (.inr "trust", .str "gdt"), (.inr "folk", .str "cdd"), (.inr "bargain", .str "gcdd")]) = H1 at e1
    have hD1 : H1 D1 = some (.dK [(.inr "toll", .str "gdh"), (.inr "board", .str "gdb"), (.inr "trust", .str "gdt"), (.inr "folk", .str "cdd"), (.inr "bargain", .str "gcdd")]) := by rw [← hH1]; exact upd_same
    clear hH1
    walk_at "z"
    refine s_dupd ?_
    walk_at "z"
    refine ⟨D1, rfl, .inl ⟨_, .inl hD1⟩, ?_⟩
    intro D2 n2
    have ne12 : D1 ≠ D2 := fun z => by rw [← z, hD1] at n2; cases n2
    repeat (refine s_pairC ?_; walk_at "z")
    refine s_pairN ⟨upd_same, [(.inr "pass", .str "dmgco"), (.inr "lost", .str "nm"), (.inr "paid", .str "cdp")], rfl, by decide, ?_⟩
    rw [mergeK_new (by decide +kernel), List.nil_append]
    refine ⟨D2, _, _, rfl, ne12, by rw [upd_ne ne12, upd_ne ne12]; exact hD1, upd_same, by decide, ?_⟩
    rw [mergeK_new (by decide +kernel)]
    have e2 : Ex H (upd (upd (upd H1 D2 (.dK [])) D2 (.dK [(.inr "pass", .str "dmgco"), (.inr "lost", .str "nm"), (.inr "paid", .str "cdp")])) D1 (.dK lawKinds)) := (e1.trans ((Ex.new n2).mut n2)).mut n1
    have hD1' : (upd (upd (upd H1 D2 (.dK [])) D2 (.dK [(.inr "pass", .str "dmgco"), (.inr "lost", .str "nm"), (.inr "paid", .str "cdp")])) D1 (.dK lawKinds)) D1 = some (.dK lawKinds) := upd_same
    show tSeq _ _ _ _ (upd (upd (upd H1 D2 (.dK [])) D2 (.dK [(.inr "pass", .str "dmgco"), (.inr "lost", .str "nm"), (.inr "paid", .str "cdp")])) D1 (.dK lawKinds))
    generalize upd (upd (upd H1 D2 (.dK [])) D2 (.dK [(.inr "pass", .str "dmgco"), (.inr "lost", .str "nm"), (.inr "paid", .str "cdp")])) D1 (.dK lawKinds) = H2 at e2 hD1'
    clear hD1 e1 n2 ne12
    have ha2 := e2.sqT ha
    walk_at "z"
    intro D3 n3
    have ne13 : D1 ≠ D3 := fun z => by rw [← z, hD1'] at n3; cases n3
    have e3 : Ex H2 (upd H2 D3 (.dK [])) := Ex.new n3
    have h30 : (upd H2 D3 (.dK [])) D3 = some (.dK []) := upd_same
    generalize upd H2 D3 (.dK []) = G0 at e3 h30
    refine s_pairC ?_
    walk_at "z"
    rename_i xg G1 _ g1 hxg
    refine s_pairC ?_
    walk_at "z"
    rename_i xd G2 _ g2 hxd
    refine s_pairC ?_
    walk_at "z"
    rename_i xh G3 _ g3 hxh
    refine s_pairC ?_
    walk_at "z"
    rename_i xt G4 _ g4 hxt
    refine s_pairC ?_
    walk_at "z"
    rename_i xc G5 _ g5 hxc
    refine s_pairC ?_
    walk_at "z"
    rename_i xm G6 _ g6 hxm
    refine s_pairC ?_
    walk_at "z"
    rename_i xo G7 _ g7 hxo
    have eG : Ex G0 G7 := (((((g1.trans g2).trans g3).trans g4).trans g5).trans g6).trans g7
    refine s_pairN ⟨eG _ _ h30, [(.inr "g", .ref xg), (.inr "d", .ref xd), (.inr "h", .ref xh), (.inr "t", .ref xt), (.inr "c", .ref xc), (.inr "m", .ref xm), (.inr "o", .ref xo)], rfl, by show 7 ≤ 15; decide, ?_⟩
    rw [mergeK_new (kvs := []) (more := [(.inr "g", .ref xg), (.inr "d", .ref xd), (.inr "h", .ref xh), (.inr "t", .ref xt), (.inr "c", .ref xc), (.inr "m", .ref xm), (.inr "o", .ref xo)]) (show List.Nodup ([Sum.inr "g", Sum.inr "d", Sum.inr "h", Sum.inr "t", Sum.inr "c", Sum.inr "m", Sum.inr "o"] : List Key) from by decide +kernel), List.nil_append]
    have yg : SqT K (upd G7 D3 (.dK [(.inr "g", .ref xg), (.inr "d", .ref xd), (.inr "h", .ref xh), (.inr "t", .ref xt), (.inr "c", .ref xc), (.inr "m", .ref xm), (.inr "o", .ref xo)])) xg [.int 0, .int 7] := sqT_updK (eG _ _ h30) (SqT.of (g7 _ _ (g6 _ _ (g5 _ _ (g4 _ _ (g3 _ _ (g2 _ _ hxg)))))))
    have yd : SqT K (upd G7 D3 (.dK [(.inr "g", .ref xg), (.inr "d", .ref xd), (.inr "h", .ref xh), (.inr "t", .ref xt), (.inr "c", .ref xc), (.inr "m", .ref xm), (.inr "o", .ref xo)])) xd [.int 0, .int 999] := sqT_updK (eG _ _ h30) (SqT.of (g7 _ _ (g6 _ _ (g5 _ _ (g4 _ _ (g3 _ _ hxd))))))
    have yh : SqT K (upd G7 D3 (.dK [(.inr "g", .ref xg), (.inr "d", .ref xd), (.inr "h", .ref xh), (.inr "t", .ref xt), (.inr "c", .ref xc), (.inr "m", .ref xm), (.inr "o", .ref xo)])) xh [.int 0, .int 48] := sqT_updK (eG _ _ h30) (SqT.of (g7 _ _ (g6 _ _ (g5 _ _ (g4 _ _ hxh)))))
    have yt : SqT K (upd G7 D3 (.dK [(.inr "g", .ref xg), (.inr "d", .ref xd), (.inr "h", .ref xh), (.inr "t", .ref xt), (.inr "c", .ref xc), (.inr "m", .ref xm), (.inr "o", .ref xo)])) xt [.int 0, .int 3] := sqT_updK (eG _ _ h30) (SqT.of (g7 _ _ (g6 _ _ (g5 _ _ hxt))))
    have yc : SqT K (upd G7 D3 (.dK [(.inr "g", .ref xg), (.inr "d", .ref xd), (.inr "h", .ref xh), (.inr "t", .ref xt), (.inr "c", .ref xc), (.inr "m", .ref xm), (.inr "o", .ref xo)])) xc [.int 0, .int 9] := sqT_updK (eG _ _ h30) (SqT.of (g7 _ _ (g6 _ _ hxc)))
    have ym : SqT K (upd G7 D3 (.dK [(.inr "g", .ref xg), (.inr "d", .ref xd), (.inr "h", .ref xh), (.inr "t", .ref xt), (.inr "c", .ref xc), (.inr "m", .ref xm), (.inr "o", .ref xo)])) xm [.int 0, .int 1439] := sqT_updK (eG _ _ h30) (SqT.of (g7 _ _ hxm))
    have yo : SqT K (upd G7 D3 (.dK [(.inr "g", .ref xg), (.inr "d", .ref xd), (.inr "h", .ref xh), (.inr "t", .ref xt), (.inr "c", .ref xc), (.inr "m", .ref xm), (.inr "o", .ref xo)])) xo [.int 1, .int 8] := sqT_updK (eG _ _ h30) (SqT.of hxo)
    have e4 : Ex H2 (upd G7 D3 (.dK [(.inr "g", .ref xg), (.inr "d", .ref xd), (.inr "h", .ref xh), (.inr "t", .ref xt), (.inr "c", .ref xc), (.inr "m", .ref xm), (.inr "o", .ref xo)])) := (e3.trans eG).mut n3
    have h40 : (upd G7 D3 (.dK [(.inr "g", .ref xg), (.inr "d", .ref xd), (.inr "h", .ref xh), (.inr "t", .ref xt), (.inr "c", .ref xc), (.inr "m", .ref xm), (.inr "o", .ref xo)])) D3 = some (.dK [(.inr "g", .ref xg), (.inr "d", .ref xd), (.inr "h", .ref xh), (.inr "t", .ref xt), (.inr "c", .ref xc), (.inr "m", .ref xm), (.inr "o", .ref xo)]) := upd_same
    generalize upd G7 D3 (.dK [(.inr "g", .ref xg), (.inr "d", .ref xd), (.inr "h", .ref xh), (.inr "t", .ref xt), (.inr "c", .ref xc), (.inr "m", .ref xm), (.inr "o", .ref xo)]) = H3 at e4 h40 yg yd yh yt yc ym yo
    clear g1 g2 g3 g4 g5 g6 g7 eG hxg hxd hxh hxt hxc hxm hxo h30 e3
    walk_at "z"
    refine s_dupd ?_
    walk_at "z"
    refine ⟨D3, rfl, .inl ⟨_, .inl h40⟩, ?_⟩
    intro D4 n4
    have ne34 : D3 ≠ D4 := fun z => by rw [← z, h40] at n4; cases n4
    have e5 : Ex H3 (upd H3 D4 (.dK [])) := Ex.new n4
    have h50 : (upd H3 D4 (.dK [])) D4 = some (.dK []) := upd_same
    generalize upd H3 D4 (.dK []) = F0 at e5 h50
    refine s_pairC ?_
    walk_at "z"
    rename_i xp F1 _ k1 hxp
    refine s_pairC ?_
    walk_at "z"
    rename_i xn F2 _ k2 hxn
    have eF : Ex F0 F2 := k1.trans k2
    refine s_pairN ⟨eF _ _ h50, [(.inr "p", .ref xp), (.inr "n", .ref xn)], rfl, by show 2 ≤ 15; decide, ?_⟩
    rw [mergeK_new (kvs := []) (more := [(.inr "p", .ref xp), (.inr "n", .ref xn)]) (show List.Nodup ([Sum.inr "p", Sum.inr "n"] : List Key) from by decide +kernel), List.nil_append]
    have e35 : Ex H3 (upd F2 D4 (.dK [(.inr "p", .ref xp), (.inr "n", .ref xn)])) := (e5.trans eF).mut n4
    refine ⟨D4, _, _, rfl, ne34, e35 _ _ h40, upd_same, by show 9 ≤ 10000; decide, ?_⟩
    rw [mergeK_new (kvs := [(.inr "g", .ref xg), (.inr "d", .ref xd), (.inr "h", .ref xh), (.inr "t", .ref xt), (.inr "c", .ref xc), (.inr "m", .ref xm), (.inr "o", .ref xo)]) (more := [(.inr "p", .ref xp), (.inr "n", .ref xn)]) (show List.Nodup ([Sum.inr "g", Sum.inr "d", Sum.inr "h", Sum.inr "t", Sum.inr "c", Sum.inr "m", Sum.inr "o", Sum.inr "p", Sum.inr "n"] : List Key) from by decide +kernel)]
    have yp : SqT K (upd F2 D4 (.dK [(.inr "p", .ref xp), (.inr "n", .ref xn)])) xp [.int 0, .int 100000] := sqT_updK (eF _ _ h50) (SqT.of (k2 _ _ hxp))
    have yn : SqT K (upd F2 D4 (.dK [(.inr "p", .ref xp), (.inr "n", .ref xn)])) xn _ := sqT_updK (eF _ _ h50) (SqT.of hxn)
    have e36 := e4.trans e35
    have h46 := e35 _ _ h40
    generalize upd F2 D4 (.dK [(.inr "p", .ref xp), (.inr "n", .ref xn)]) = H4 at e35 e36 h46 yp yn
    have e7 : Ex H2 (upd H4 D3 (.dK [(.inr "g", .ref xg), (.inr "d", .ref xd), (.inr "h", .ref xh), (.inr "t", .ref xt), (.inr "c", .ref xc), (.inr "m", .ref xm), (.inr "o", .ref xo), (.inr "p", .ref xp), (.inr "n", .ref xn)])) := e36.mut n3
    show tSeq _ _ _ _ (upd H4 D3 (.dK [(.inr "g", .ref xg), (.inr "d", .ref xd), (.inr "h", .ref xh), (.inr "t", .ref xt), (.inr "c", .ref xc), (.inr "m", .ref xm), (.inr "o", .ref xo), (.inr "p", .ref xp), (.inr "n", .ref xn)]))
    have L : Lims K (upd H4 D3 (.dK [(.inr "g", .ref xg), (.inr "d", .ref xd), (.inr "h", .ref xh), (.inr "t", .ref xt), (.inr "c", .ref xc), (.inr "m", .ref xm), (.inr "o", .ref xo), (.inr "p", .ref xp), (.inr "n", .ref xn)])) [(.inr "g", .ref xg), (.inr "d", .ref xd), (.inr "h", .ref xh), (.inr "t", .ref xt), (.inr "c", .ref xc), (.inr "m", .ref xm), (.inr "o", .ref xo), (.inr "p", .ref xp), (.inr "n", .ref xn)] := by
      refine ⟨fun k hk => ?_⟩
      simp only [kindsOf, List.mem_cons, List.not_mem_nil, or_false] at hk
      rcases hk with rfl | rfl | rfl | rfl | rfl | rfl | rfl | rfl | rfl
      · exact ⟨xg, _, by repeat (first | exact valV_posK (by decide +kernel) | refine valV_noK (by decide +kernel) ?_), sqT_updK h46 (e35.sqT yg), fun n _ _ => within_some⟩
      · exact ⟨xd, _, by repeat (first | exact valV_posK (by decide +kernel) | refine valV_noK (by decide +kernel) ?_), sqT_updK h46 (e35.sqT yd), fun n _ _ => within_some⟩
      · exact ⟨xh, _, by repeat (first | exact valV_posK (by decide +kernel) | refine valV_noK (by decide +kernel) ?_), sqT_updK h46 (e35.sqT yh), fun n _ _ => within_some⟩
      · exact ⟨xt, _, by repeat (first | exact valV_posK (by decide +kernel) | refine valV_noK (by decide +kernel) ?_), sqT_updK h46 (e35.sqT yt), fun n _ _ => within_some⟩
      · exact ⟨xc, _, by repeat (first | exact valV_posK (by decide +kernel) | refine valV_noK (by decide +kernel) ?_), sqT_updK h46 (e35.sqT yc), fun n _ _ => within_some⟩
      · exact ⟨xm, _, by repeat (first | exact valV_posK (by decide +kernel) | refine valV_noK (by decide +kernel) ?_), sqT_updK h46 (e35.sqT ym), fun n _ _ => within_some⟩
      · exact ⟨xo, _, by repeat (first | exact valV_posK (by decide +kernel) | refine valV_noK (by decide +kernel) ?_), sqT_updK h46 (e35.sqT yo), fun n _ _ => within_some⟩
      · exact ⟨xn, _, by repeat (first | exact valV_posK (by decide +kernel) | refine valV_noK (by decide +kernel) ?_), sqT_updK h46 yn, fun n h1 h2 => by
          rw [show (10 : Int) ^ Int.toNat 40 = 10000000000000000000000000000000000000000 from by decide +kernel]
          rw [show bndOf "number" = (1, none) from by decide +kernel]
          unfold within
          by_cases h3 : (1 : Int) ≤ n
          · simp [h3]
            omega
          · simp [h3]⟩
      · exact ⟨xp, _, by repeat (first | exact valV_posK (by decide +kernel) | refine valV_noK (by decide +kernel) ?_), sqT_updK h46 yp, fun n _ _ => within_some⟩
    have h70 : (upd H4 D3 (.dK [(.inr "g", .ref xg), (.inr "d", .ref xd), (.inr "h", .ref xh), (.inr "t", .ref xt), (.inr "c", .ref xc), (.inr "m", .ref xm), (.inr "o", .ref xo), (.inr "p", .ref xp), (.inr "n", .ref xn)])) D3 = some (.dK [(.inr "g", .ref xg), (.inr "d", .ref xd), (.inr "h", .ref xh), (.inr "t", .ref xt), (.inr "c", .ref xc), (.inr "m", .ref xm), (.inr "o", .ref xo), (.inr "p", .ref xp), (.inr "n", .ref xn)]) := upd_same
    generalize upd H4 D3 (.dK [(.inr "g", .ref xg), (.inr "d", .ref xd), (.inr "h", .ref xh), (.inr "t", .ref xt), (.inr "c", .ref xc), (.inr "m", .ref xm), (.inr "o", .ref xo), (.inr "p", .ref xp), (.inr "n", .ref xn)]) = H5 at e7 h70 L
    generalize hlims : ([(.inr "g", .ref xg), (.inr "d", .ref xd), (.inr "h", .ref xh), (.inr "t", .ref xt), (.inr "c", .ref xc), (.inr "m", .ref xm), (.inr "o", .ref xo), (.inr "p", .ref xp), (.inr "n", .ref xn)] : List (Key × V)) = lims at h70 L
    clear h46 yp yn e36 e35 yg yd yh yt yc ym yo h40 e4 n3 ne13 n4 ne34 e5 h50 eF k1 k2 hxp hxn hlims
    have hD5 := e7 _ _ hD1'
    have e8 := e2.trans e7
    have ha5 := e8.sqT ha
    clear e7 hD1' ha2
    obtain ⟨ksome, knone⟩ := kinds_of bt.word
    walk_at "z"
    refine s_tDNotIn ?_
    walk_at "z"
    refine s_ixT ha5 (at0 _ _) ?_
    walk_at "z"
    refine s_dnotinS hD5 ?_
    cases hs : shapeOf f.w with
    | none =>
      rw [knone hs]
      walk_at "z"
      have p0 : placeI f = 0 := by
        unfold placeI placeF
        rw [hs]
        rfl
      have := k H5 e8
      rw [p0] at this
      exact this
    | some ks =>
      obtain ⟨hv, h5, hkk⟩ := ksome ks hs
      have hll : (lettersOf ks).length = ks.length := by
        show ((ks.map letterOf).toArray).size = ks.length
        simp
      have hls : (lettersOf ks).length ≤ sizeLine := sz (by omega)
      rw [hv]
      walk_at "z"
      refine s_tDGet ?_
      walk_at "z"
      refine s_ixT ha5 (at0 _ _) ?_
      walk_at "z"
      refine s_dgetS hD5 hv ?_
      walk_at "z"
      refine s_rLenStr hls ?_
      walk_at "z"
      rw [hll, List.length_cons, hul]
      by_cases hl : ks.length = f.xs.length
      · have p1 : placeF f = firstBad 1 ks f.xs := by
          unfold placeF
          rw [hs]
          dsimp only
          rw [if_pos hl]
        refine ite_nneg (by omega) ?_
        walk_at "z"
        rw [List.length_cons, hul]
        refine l_range2 ⟨by decide, by decide, by omega, by omega⟩ (fun i σ H' => ∃ v3 v4 v5, σ = [some (.ref a), some (.ref D1), some (.ref D3), v3, v4, v5] ∧ Ex H5 H' ∧ placeF f = firstBad (i + 1) (ks.drop i) (f.xs.drop i)) ⟨_, _, _, rfl, Ex.refl, p1⟩ (fun i σ H' hi h => ?_) (fun σ H' h => ?_)
        · obtain ⟨v3, v4, v5, rfl, e1, pi⟩ := h
          have hik : i < ks.length := by omega
          obtain ⟨kd, hk1⟩ : ∃ kd, ks[i]? = some kd := ⟨_, List.getElem?_eq_getElem hik⟩
          obtain ⟨x0, hx0⟩ : ∃ x0, f.xs[i]? = some x0 := ⟨_, List.getElem?_eq_getElem (by omega)⟩
          obtain ⟨u, hu1, fd⟩ := fds_get hu hx0
          have st := bt.suits ks hs hl i kd x0 hk1 hx0
          rw [firstBad_drop hk1 hx0] at pi
          have ha6 := e1.sqT ha5
          have cast : (1 : Int) + (i : Int) = ((i + 1 : Nat) : Int) := by omega
          walk_at "z"
          refine s_tDGet ?_
          walk_at "z"
          refine s_ixT ha6 (at0 _ _) ?_
          walk_at "z"
          refine s_dgetS (e1 _ _ hD5) hv ?_
          walk_at "z"
          rw [show (1 : Int) + (i : Int) - 1 = (i : Nat) from by omega]
          refine s_ixS hls (atI_nat (v := letterOf kd) (by
            show ((ks.map letterOf).toArray.toList)[i]? = some (letterOf kd)
            simp [hk1])) ?_
          walk_at "z"
          have fin : argOk kd x0 = false → Q (.int (1 + (i : Int))) H' := fun z => by
            rw [z] at pi
            have := k H' (e8.trans e1)
            unfold placeI at this
            rw [pi] at this
            rw [cast]
            exact this
          have hat : atI (V.str f.w :: us) (1 + (i : Int)) = some u := by
            rw [cast]
            exact atI_nat (xs := V.str f.w :: us) (j := i + 1) (by simpa using hu1)
          cases fd with
          | i n =>
            obtain ⟨hkk, hn1, hn2⟩ := st
            rw [decide_eq_false (letter_ne hkk)]
            walk_at "z"
            obtain ⟨tb, hi2, hb1, hb2, hb3⟩ := (L.ex e1).at_ kd hkk
            have hb := hb3 n hn1 hn2
            have ea : argOk kd (.i n) = within (bndOf kd).1 (bndOf kd).2 n := rfl
            rw [← ea] at hb
            refine s_tDGet ?_
            walk_at "z"
            refine s_dgetS (e1 _ _ h70) hb1 ?_
            walk_at "z"
            refine s_ixT ha6 hat ?_
            walk_at "z"
            by_cases h1 : (bndOf kd).1 ≤ n
            · refine ite_pos h1 ?_
              refine s_tDGet ?_
              walk_at "z"
              refine s_dgetS (e1 _ _ h70) hb1 ?_
              walk_at "z"
              by_cases h2 : n ≤ hi2
              · refine ite_nneg h2 ?_
                walk_at "z"
                rw [decide_eq_true ⟨h1, h2⟩] at hb
                rw [← hb] at pi
                exact ⟨_, _, _, rfl, e1, pi⟩
              · refine ite_npos h2 ?_
                walk_at "z"
                exact fin (by rw [← hb]; exact decide_eq_false fun z => h2 z.2)
            · refine ite_neg h1 ?_
              walk_at "z"
              exact fin (by rw [← hb]; exact decide_eq_false fun z => h1 z.1)
          | t hq =>
            rename_i q l
            obtain ⟨rfl, hl60⟩ := st
            rw [decide_eq_true (show (⟨#[letterOf "gates"]⟩ : Str) = "b" from by decide +kernel)]
            walk_at "z"
            have hq6 := (e8.trans e1).sqT hq
            refine s_ixT ha6 hat ?_
            walk_at "z"
            rename_i p H6 np e6 hp
            refine c_range (by decide) (fun D H' => H6 D = none ∧ Ex H6 H') (fun D j acc H' => acc = (gatesIn l j).map V.int) (fun D H' n e _ => ⟨⟨n, e⟩, rfl⟩) (fun D j acc H7 hj Iv hD hn r => ?_) (fun D acc H7 Iv hD hn r => ?_)
            · obtain ⟨nD, e7⟩ := Iv
              have e17 := (e1.trans e6).trans e7
              walk_at "z"
              refine ⟨rfl, ?_⟩
              walk_at "z"
              refine s_ixT (e17.sqT ha5) hat ?_
              walk_at "z"
              refine s_rInSeq (.inr ((e6.trans e7).sqT hq6)) rfl (flat_intsP l) ?_
              rw [inV_intsP]
              refine ⟨_, rfl, ?_⟩
              refine ite_dec (fun h0 => ?_) (fun h0 => ?_)
              · walk_at "z"
                refine c_put hD ⟨hn, by omega⟩ fun H8 f8 _ => ⟨⟨nD, e7.fr2 nD f8⟩, ?_⟩
                rw [r, gatesIn_succ, if_pos h0, List.map_append]
                rfl
              · walk_at "z"
                refine c_skip hD hn ⟨nD, e7⟩ ?_
                rw [r, gatesIn_succ, if_neg h0]
            · obtain ⟨nD, e7⟩ := Iv
              have e17 := (e1.trans e6).trans e7
              subst r
              refine s_neInts (SqL.of (e7 _ _ hp)) (SqL.of hD) ?_
              walk_at "z"
              rw [show decide (l = gatesIn l (8 : Int).toNat) = argOk "gates" (.t l) from rise_law l]
              cases hok : argOk "gates" (.t l) with
              | true =>
                walk_at "z"
                rw [hok] at pi
                exact ⟨_, _, _, rfl, e17, pi⟩
              | false =>
                walk_at "z"
                rw [hok] at pi
                have := k H7 (e8.trans e17)
                unfold placeI at this
                rw [pi] at this
                rw [cast]
                exact this
        · obtain ⟨v3, v4, v5, rfl, e1, pi⟩ := h
          walk_at "z"
          rw [show ((((f.xs.length + 1 : Nat) : Int) - 1).toNat) = ks.length from by omega, List.drop_length] at pi
          have := k H' (e8.trans e1)
          unfold placeI at this
          rw [pi] at this
          exact this
      · have p0 : placeI f = 0 := by
          unfold placeI placeF
          rw [hs]
          dsimp only
          rw [if_neg hl]
          rfl
        refine ite_npos (by omega) ?_
        walk_at "z"
        have := k H5 e8
        rw [p0] at this
        exact this

/-! a fact, perhaps bent -/
theorem gatesIn_len (l : List Int) : ∀ j, (gatesIn l j).length ≤ j
  | 0 => Nat.le_refl _
  | j + 1 => by
    have := gatesIn_len l j
    rw [gatesIn_succ]
    split
    · rw [List.length_append]
      show _ + 1 ≤ _
      omega
    · omega
theorem rise_len {l : List Int} (h : Rising l) (h7 : ∀ x ∈ l, R 0 7 x) : l.length ≤ 8 := by
  have : l = gatesIn l 8 := rising_ext h (gatesIn_rise l 8) fun x => by
    rw [gatesIn_mem]
    exact ⟨fun hx => ⟨hx, (h7 x hx).1, by have := (h7 x hx).2; omega⟩, fun hx => hx.1⟩
  rw [this]
  exact gatesIn_len l 8
theorem gf_shaped {f : Fct} (g : GF f) (lb : LB f) : f.w ∈ wordsOf.take 8 ∧ 2 ≤ f.xs.length ∧ f.xs.length ≤ 5 ∧ ∃ ks, shapeOf f.w = some ks ∧ ks.length = f.xs.length ∧ All2 Suits ks f.xs := by
  have num : ∀ {k : Str} {n lo hi : Int}, k ∈ kindsOf → R lo hi n → -1000000 ≤ lo → hi ≤ 1000000 → Suits k (.i n) := fun hk h h1 h2 => ⟨hk, by have := h.1; omega, by have := h.2; omega⟩
  cases g with
  | toll a b c => exact ⟨by show ("toll" : Str) ∈ _; decide +kernel, by show 2 ≤ 3; decide, by show 3 ≤ 5; decide, ["gate", "day", "toll"], by show shapeOf "toll" = _; decide +kernel, rfl, .cons (num (by decide +kernel) a (by decide) (by decide)) (.cons (num (by decide +kernel) b (by decide) (by decide)) (.cons (num (by decide +kernel) c (by decide) (by decide)) .nil))⟩
  | board a b c d => exact ⟨by show ("board" : Str) ∈ _; decide +kernel, by show 2 ≤ 3; decide, by show 3 ≤ 5; decide, ["gate", "day", "gates"], by show shapeOf "board" = _; decide +kernel, rfl, .cons (num (by decide +kernel) a (by decide) (by decide)) (.cons (num (by decide +kernel) b (by decide) (by decide)) (.cons ⟨rfl, Nat.le_trans (rise_len c d) (by decide)⟩ .nil))⟩
  | trust a b c => exact ⟨by show ("trust" : Str) ∈ _; decide +kernel, by show 2 ≤ 3; decide, by show 3 ≤ 5; decide, ["gate", "day", "trust"], by show shapeOf "trust" = _; decide +kernel, rfl, .cons (num (by decide +kernel) a (by decide) (by decide)) (.cons (num (by decide +kernel) b (by decide) (by decide)) (.cons (num (by decide +kernel) c (by decide) (by decide)) .nil))⟩
  | folk a b c => exact ⟨by show ("folk" : Str) ∈ _; decide +kernel, by show 2 ≤ 3; decide, by show 3 ≤ 5; decide, ["carriage", "day", "day"], by show shapeOf "folk" = _; decide +kernel, rfl, .cons (num (by decide +kernel) a (by decide) (by decide)) (.cons (num (by decide +kernel) b (by decide) (by decide)) (.cons (num (by decide +kernel) c (by decide) (by decide)) .nil))⟩
  | bargain a b c d => exact ⟨by show ("bargain" : Str) ∈ _; decide +kernel, by show 2 ≤ 4; decide, by show 4 ≤ 5; decide, ["gate", "carriage", "day", "day"], by show shapeOf "bargain" = _; decide +kernel, rfl, .cons (num (by decide +kernel) a (by decide) (by decide)) (.cons (num (by decide +kernel) b (by decide) (by decide)) (.cons (num (by decide +kernel) c (by decide) (by decide)) (.cons (num (by decide +kernel) d (by decide) (by decide)) .nil)))⟩
  | pass a b c d e => exact ⟨by show ("pass" : Str) ∈ _; decide +kernel, by show 2 ≤ 5; decide, by show 5 ≤ 5; decide, ["day", "minute", "gate", "carriage", "horses"], by show shapeOf "pass" = _; decide +kernel, rfl, .cons (num (by decide +kernel) a (by decide) (by decide)) (.cons (num (by decide +kernel) b (by decide) (by decide)) (.cons (num (by decide +kernel) c (by decide) (by decide)) (.cons (num (by decide +kernel) d (by decide) (by decide)) (.cons (num (by decide +kernel) e (by decide) (by decide)) .nil))))⟩
  | @lost n m a b =>
    have hn := lb n m rfl
    exact ⟨by show ("lost" : Str) ∈ _; decide +kernel, by show 2 ≤ 2; decide, by show 2 ≤ 5; decide, ["number", "minute"], by show shapeOf "lost" = _; decide +kernel, rfl, .cons ⟨by decide +kernel, by omega, by omega⟩ (.cons (num (by decide +kernel) b (by decide) (by decide)) .nil)⟩
  | paid a b c => exact ⟨by show ("paid" : Str) ∈ _; decide +kernel, by show 2 ≤ 3; decide, by show 3 ≤ 5; decide, ["carriage", "day", "payment"], by show shapeOf "paid" = _; decide +kernel, rfl, .cons (num (by decide +kernel) a (by decide) (by decide)) (.cons (num (by decide +kernel) b (by decide) (by decide)) (.cons (num (by decide +kernel) c (by decide) (by decide)) .nil))⟩
theorem word_take {z : Str} (h : z ∈ wordsOf.take 8) : z ∈ wordsOf := List.mem_of_mem_take h
theorem suits_of {ks : List Str} {xs : List Arg} (h : All2 Suits ks xs) (i : Nat) (k : Str) (x : Arg) (h1 : ks[i]? = some k) (h2 : xs[i]? = some x) : Suits k x := by
  obtain ⟨b, hb, hs⟩ := h.get h1
  rw [h2] at hb
  cases hb
  exact hs
theorem bent_good {f : Fct} (g : GF f) (lb : LB f) : Bent f := by
  obtain ⟨h1, h2, h3, ks, h4, h5, h6⟩ := gf_shaped g lb
  exact ⟨word_take h1, by omega, fun ks' e _ => by
    rw [h4] at e
    cases e
    exact suits_of h6⟩
/-! the roll: its states -/
abbrev Stt := List (Option Fct)
def OF (K : PySem.W.Frag) (H : Hp) (v : V) (o : Option Fct) : Prop := match o with
  | none => v = .non
  | some f => RF K H v f
def StA (K : PySem.W.Frag) (H : Hp) (v : V) (st : Stt) : Prop := ∃ p vs, v = .ref p ∧ SqT K H p vs ∧ All2 (OF K H) vs st
theorem of_tk {H H' : Hp} (e : Tk K H H') {v : V} {o : Option Fct} (h : OF K H v o) : OF K H' v o := by
  cases o with
  | none => exact h
  | some f => exact rf_map (fun z => e _ _ z) h
theorem StA.tk {H H' : Hp} (e : Tk K H H') {v : V} {st : Stt} (h : StA K H v st) : StA K H' v st := by
  obtain ⟨p, vs, h1, h2, h3⟩ := h
  exact ⟨p, vs, h1, e _ _ h2, h3.mono fun _ _ z => of_tk e z⟩
/-- all stays but two lists -/
def Fr2 (a b : Addr) (H H' : Hp) : Prop := ∀ c o, c ≠ a → c ≠ b → H c = some o → H' c = some o
theorem Fr2.refl {a b : Addr} {H : Hp} : Fr2 a b H H := fun _ _ _ _ h => h
theorem Fr2.trans {a b : Addr} {H H1 H2 : Hp} (f : Fr2 a b H H1) (g : Fr2 a b H1 H2) : Fr2 a b H H2 := fun c o n1 n2 h => g c o n1 n2 (f c o n1 n2 h)
theorem Ex.f2 {a b : Addr} {H H' : Hp} (e : Ex H H') : Fr2 a b H H' := fun c o _ _ h => e c o h
theorem Fr.f2l {a b : Addr} {H H' : Hp} (e : Fr a H H') : Fr2 a b H H' := fun c o n _ h => e c o n h
theorem Fr.f2r {a b : Addr} {H H' : Hp} (e : Fr b H H') : Fr2 a b H H' := fun c o _ n h => e c o n h
theorem tk_f2 {a b : Addr} {xs ys : List V} {H H' : Hp} (e : Fr2 a b H H') (ha : H a = some (.lst xs)) (hb : H b = some (.lst ys)) : Tk K H H' := fun p zs h => by
  have ne : ∀ {u}, H p = some u → (∀ xs, u ≠ .lst xs) → p ≠ a ∧ p ≠ b := fun h1 h2 => ⟨fun z => by
    subst z
    rw [h1] at ha
    exact h2 _ (Option.some.inj ha), fun z => by
    subst z
    rw [h1] at hb
    exact h2 _ (Option.some.inj hb)⟩
  rcases h with (h | ⟨q, h⟩) | h
  · have n := ne h (fun _ z => by cases z)
    exact .inl (.inl (e _ _ n.1 n.2 h))
  · have n := ne h (fun _ z => by cases z)
    exact .inl (.inr ⟨q, e _ _ n.1 n.2 h⟩)
  · exact .inr h
structure RollAt (K : PySem.W.Frag) (C : Addr) (H : Hp) (r S U : Addr) (sts uns : List Stt) : Prop where
  ob : ∃ dx, H r = some (.ins C dx [("states", .ref S), ("undone", .ref U)])
  st : ∃ sv, H S = some (.lst sv) ∧ All2 (StA K H) sv sts
  un : ∃ uv, H U = some (.lst uv) ∧ All2 (StA K H) uv uns
  ne : S ≠ U
theorem RollAt.ex {C r S U : Addr} {H H' : Hp} {sts uns : List Stt} (h : RollAt K C H r S U sts uns) (e : Ex H H') : RollAt K C H' r S U sts uns := by
  obtain ⟨⟨dx, h1⟩, ⟨sv, h2, h3⟩, ⟨uv, h4, h5⟩, h6⟩ := h
  exact ⟨⟨dx, e _ _ h1⟩, ⟨sv, e _ _ h2, h3.mono fun _ _ z => z.tk e.tk⟩, ⟨uv, e _ _ h4, h5.mono fun _ _ z => z.tk e.tk⟩, h6⟩
theorem RollAt.fr {C r S U b : Addr} {ys : List V} {H H' : Hp} {sts uns : List Stt} (h : RollAt K C H r S U sts uns) (f : Fr b H H') (hb : H b = some (.lst ys)) (n1 : S ≠ b) (n2 : U ≠ b) : RollAt K C H' r S U sts uns := by
  obtain ⟨⟨dx, h1⟩, ⟨sv, h2, h3⟩, ⟨uv, h4, h5⟩, h6⟩ := h
  have t := tk_lst (K := K) f hb
  exact ⟨⟨dx, f _ _ (ne_of h1 hb (fun z => by cases z)) h1⟩, ⟨sv, f _ _ n1 h2, h3.mono fun _ _ z => z.tk t⟩, ⟨uv, f _ _ n2 h4, h5.mono fun _ _ z => z.tk t⟩, h6⟩
/-- a new roll -/
def spRollI (K : PySem.W.Frag) (C : Addr) : Sp := fun vs H Q _ => ∃ (r dx : Addr), vs = [.ref r] ∧ H r = some (.ins C dx []) ∧ ∀ S U H', H S = none → H U = none → Fr r H H' → RollAt K C H' r S U [[]] [] → Q .non H'
theorem sc_c_Roll_init : FnScope ["self"] ["self"] (defScope s_c_Roll_init) :=
  ⟨rfl, rfl, rfl, by decide +kernel, rfl, by decide +kernel, by decide +kernel⟩
theorem ok_c_Roll_init (T : Tx P K mg w) : FnOk P w K mg base CX0 1 T.f_c_Roll_init T.d_c_Roll_init ["self"] (spRollI K T.C_Roll) := by
  refine T.F_c_Roll_init.ok sc_c_Roll_init (fun vs H Q E h => ?_) (fun cdv A outer s H vs Q E hr h => ?_)
  · obtain ⟨r, dx, rfl, _⟩ := h
    rfl
  · obtain ⟨r, dx, rfl, hr1, k⟩ := h
    refine ⟨_, (pss_cons (ps_fld (pv 0) (pe_lst (pa_cons (pe_tup pa_nil) pa_nil)) rfl) (pss_one (ps_fld (pv 0) (pe_lst pa_nil) rfl))), ?_⟩
    refine at_start (ρ' := [some _]) rfl ?_
    walk_at "z0"
    walk_at "z"
    refine s_sFldP ?_
    walk_at "z"
    rename_i t H1 nt e1 ht S H2 nS e2 hS
    refine s_fldPut [("states", .ref S)] (e2 _ _ (e1 _ _ hr1)) T.cls_Roll T.na_Roll_states (by show 0 < 1000; decide) rfl fun H3 f3 h3 => ?_
    walk_at "z"
    refine s_sFldP ?_
    walk_at "z"
    rename_i U H4 nU e4 hU
    refine s_fldPut [("states", .ref S), ("undone", .ref U)] (e4 _ _ h3) T.cls_Roll T.na_Roll_undone (by show 1 < 1000; decide) rfl fun H5 f5 h5 => ?_
    walk_at "z"
    have nSr : S ≠ r := ne_of hS (e2 _ _ (e1 _ _ hr1)) (fun z => by cases z)
    have ntr : t ≠ r := ne_of ht (e1 _ _ hr1) (fun z => by cases z)
    have nUr : U ≠ r := (ne_of_none h3 nU).symm
    have hS3 := f3 _ _ nSr hS
    have nSU : S ≠ U := ne_of_none hS3 nU
    have nU0 : H U = none := by
      cases z : H U with
      | none => rfl
      | some o =>
        rw [f3 _ _ nUr (e2 _ _ (e1 _ _ z))] at nU
        cases nU
    refine k S U H5 (Ex.back e1 nS) nU0 (((((e1.trans e2).fr r).trans f3).trans (e4.fr r)).trans f5) ⟨⟨dx, h5⟩, ⟨[.ref t], f5 _ _ nSr (e4 _ _ hS3), .cons ⟨t, [], rfl, SqT.of (f5 _ _ ntr (e4 _ _ (f3 _ _ ntr (e2 _ _ ht)))), .nil⟩ .nil⟩, ⟨[], f5 _ _ nUr hU, .nil⟩, nSU⟩
/-- a deed is done -/
def spEnter (K : PySem.W.Frag) (C : Addr) : Sp := fun vs H Q _ => ∃ (r S U : Addr) (v : V) (st : Stt) (sts uns : List Stt), vs = [.ref r, v] ∧ RollAt K C H r S U sts uns ∧ StA K H v st ∧ sts.length ≤ 10000 ∧ ∀ H', Fr2 S U H H' → RollAt K C H' r S U (sts ++ [st]) [] → Q .non H'
theorem sc_c_Roll_enter : FnScope ["self", "state"] ["self", "state"] (defScope s_c_Roll_enter) :=
  ⟨rfl, rfl, rfl, by decide +kernel, rfl, by decide +kernel, by decide +kernel⟩
theorem ok_c_Roll_enter (T : Tx P K mg w) : FnOk P w K mg base CX0 1 T.f_c_Roll_enter T.d_c_Roll_enter ["self", "state"] (spEnter K T.C_Roll) := by
  refine T.F_c_Roll_enter.ok sc_c_Roll_enter (fun vs H Q E h => ?_) (fun cdv A outer s H vs Q E hr h => ?_)
  · obtain ⟨r, S, U, v, st, sts, uns, rfl, _⟩ := h
    rfl
  · obtain ⟨r, S, U, v, st, sts, uns, rfl, hR, hv, hz, k⟩ := h
    obtain ⟨⟨dx, h1⟩, ⟨sv, h2, h3⟩, ⟨uv, h4, h5⟩, h6⟩ := id hR
    refine ⟨_, (pss_cons (ps_expr (pe_bm PySem.F.plainAttrs_list PySem.F.slot_list_append PySem.F.type_list_append mt_append (pe_fld (pv 0) rfl) (pa_cons (pv 1) pa_nil))) (pss_one (ps_expr (pe_bm0 PySem.F.plainAttrs_list PySem.F.slot_list_clear PySem.F.type_list_clear mt_clear (pe_fld (pv 0) rfl))))), ?_⟩
    refine at_start (ρ' := [some _, some _]) rfl ?_
    walk_at "z0"
    walk_at "z"
    have hsl := h3.len
    refine s_fldGet h1 T.cls_Roll T.na_Roll_states rfl ?_
    refine s_tyL (SqL.of h2) ?_
    walk_at "z"
    refine s_app h2 (szl (by omega)) fun H1 f1 hS1 => ?_
    walk_at "z"
    have nrS : r ≠ S := ne_of h1 h2 (fun z => by cases z)
    have nrU : r ≠ U := ne_of h1 h4 (fun z => by cases z)
    have hU1 := f1 _ _ h6.symm h4
    refine s_fldGet (f1 _ _ nrS h1) T.cls_Roll T.na_Roll_undone rfl ?_
    refine s_tyL (SqL.of hU1) ?_
    refine ⟨U, uv, rfl, rfl, hU1, ?_⟩
    have t1 := tk_lst (K := K) f1 h2
    have f2 : Fr U H1 (upd H1 U (.lst [])) := Fr.upd
    have t2 := tk_lst (K := K) f2 hU1
    walk_at "z"
    exact k _ ((Fr.f2l f1 : Fr2 S U H H1).trans (Fr.f2r f2)) ⟨⟨dx, f2 _ _ nrU (f1 _ _ nrS h1)⟩, ⟨_, f2 _ _ h6 hS1, (h3.mono fun _ _ z => (z.tk t1).tk t2).snoc ((hv.tk t1).tk t2)⟩, ⟨[], upd_same, .nil⟩, h6⟩
theorem last_at {α : Type} {xs : List α} {x : α} (h : xs.getLast? = some x) : atI xs (-1) = some x := by
  cases xs with
  | nil => cases h
  | cons a l =>
    rw [List.getLast?_eq_getElem?] at h
    unfold atI ixN
    rw [if_neg (by decide), if_pos (by rw [List.length_cons]; omega)]
    show (a :: l)[((-1 : Int) + ((a :: l).length : Int)).toNat]? = some x
    rw [show ((-1 : Int) + ((a :: l).length : Int)).toNat = (a :: l).length - 1 from by rw [List.length_cons]; omega]
    exact h
theorem all2_last {α β : Type} {R : α → β → Prop} : ∀ {as : List α} {bs : List β} {b : β}, All2 R as bs → bs.getLast? = some b → ∃ a, as.getLast? = some a ∧ R a b
  | _, _, _, .nil, h => by cases h
  | a :: as, b :: bs, c, .cons h r, e => by
    cases bs with
    | nil =>
      cases r
      cases e
      exact ⟨a, rfl, h⟩
    | cons b2 bs =>
      cases as with
      | nil => cases r
      | cons a2 as =>
        obtain ⟨x, h1, h2⟩ := all2_last r (b := c) (by simpa using e)
        exact ⟨x, by simpa using h1, h2⟩
/-- the pairs that stand -/
def pairsS : Nat → Stt → List (Int × Fct)
  | _, [] => []
  | i, none :: st => pairsS (i + 1) st
  | i, some f :: st => ((i : Int), f) :: pairsS (i + 1) st
def oneP (i : Nat) : Option Fct → List (Int × Fct)
  | none => []
  | some f => [((i : Int), f)]
theorem pairs_snoc : ∀ (st : Stt) (i : Nat) (o : Option Fct), pairsS i (st ++ [o]) = pairsS i st ++ oneP (i + st.length) o
  | [], i, none => rfl
  | [], i, some f => rfl
  | none :: st, i, o => by
    show pairsS (i + 1) (st ++ [o]) = pairsS (i + 1) st ++ _
    rw [pairs_snoc st (i + 1) o, List.length_cons, show i + 1 + st.length = i + (st.length + 1) from by omega]
  | some g :: st, i, o => by
    show _ :: pairsS (i + 1) (st ++ [o]) = _ :: pairsS (i + 1) st ++ _
    rw [pairs_snoc st (i + 1) o, List.length_cons, show i + 1 + st.length = i + (st.length + 1) from by omega, List.cons_append]
def spFacts24 (K : PySem.W.Frag) (C : Addr) : Sp := fun vs H Q _ => ∃ (r S U : Addr) (st : Stt) (sts uns : List Stt), vs = [.ref r] ∧ RollAt K C H r S U sts uns ∧ sts.getLast? = some st ∧ st.length ≤ 1000 ∧ ∀ p vs H', H p = none → Ex H H' → H' p = some (.lst vs) → RFs K H' vs (pairsS 1 st) → Q (.ref p) H'
theorem sc_c_Roll_facts : FnScope ["self", "number", "fact"] ["self"] (defScope s_c_Roll_facts) :=
  ⟨rfl, rfl, rfl, by decide +kernel, rfl, by decide +kernel, by decide +kernel⟩
theorem ok_c_Roll_facts (T : Tx P K mg w) : FnOk P w K mg base CX0 1 T.f_c_Roll_facts T.d_c_Roll_facts ["self"] (spFacts24 K T.C_Roll) := by
  refine T.F_c_Roll_facts.ok sc_c_Roll_facts (fun vs H Q E h => ?_) (fun cdv A outer s H vs Q E hr h => ?_)
  · obtain ⟨r, S, U, st, sts, uns, rfl, _⟩ := h
    rfl
  · obtain ⟨r, S, U, st, sts, uns, rfl, ⟨⟨dx, h1⟩, ⟨sv, h2, h3⟩, _, _⟩, hl, hz, k⟩ := h
    obtain ⟨v, hv, p, vs, rfl, hp, hof⟩ := all2_last h3 hl
    refine ⟨_, (pss_one (ps_ret (pe_lc (own := [("number", 1), ("fact", 2)]) (by rfl) sc_c_Roll_facts.nd (pi_count (by rfl) T.z_enumerate (pa_cons (pe_ix (r := rIxL K) ix_list (pe_fld (pv 0) rfl) (pe_un un_neg pe_int) (fun _ _ => rfl)) pa_nil) (pk_cons pe_int pk_nil) (by decide)) (blkOk_by (own := [("number", 1), ("fact", 2)]) (N := ["self", "number", "fact"]) (sc := defScope s_c_Roll_facts) (by decide +kernel)) (fun _ _ _ _ _ => (pg_tupK (K := K) 2 rfl (by rfl) (pgs_cons (pg_name (i := 1) sc_c_Roll_facts.nd rfl (Or.inl rfl)) (pgs_cons (pg_name (i := 2) sc_c_Roll_facts.nd rfl (Or.inl rfl)) pgs_nil)))) (fun _ _ _ _ _ => (pts_one (pt_cmpR op_notN1 (pv 2) pe_non (nomark _)))) (fun _ _ _ _ _ => (pe_tup (pa_cons (pv 1) (pa_cons (pv 2) pa_nil))))))), ?_⟩
    refine at_start (ρ' := [some _, none, none]) rfl ?_
    walk_at "z0"
    walk_at "z"
    refine s_iCnt ?_
    walk_at "z"
    refine s_fldGet h1 T.cls_Roll T.na_Roll_states rfl ?_
    walk_at "z"
    refine s_ixL (SqL.of h2) (last_at hv) ?_
    walk_at "z"
    have hvl := hof.len
    refine c_cnt vs hp (fun D H' => H D = none ∧ Ex H H') (fun D i acc H' => RFs K H' acc (pairsS 1 (st.take i))) (fun D H' n e _ => ⟨⟨n, e⟩, .nil⟩) (fun D H' Iv => Iv.2.sqT hp) (fun D i acc H1 H2 t x hx Iv hD hn r nt e2 ht => ?_) (fun D acc H1 Iv hD hn r => ?_)
    · obtain ⟨nD, e1⟩ := Iv
      obtain ⟨o, ho, hox⟩ := hof.get hx
      have hi : i < vs.length := (List.getElem?_eq_some_iff.mp hx).1
      have nx : pairsS 1 (st.take (i + 1)) = pairsS 1 (st.take i) ++ oneP (i + 1) o := by
        rw [List.take_succ, ho]
        show pairsS 1 (st.take i ++ [o]) = _
        rw [pairs_snoc, List.length_take, Nat.min_eq_left (by omega), Nat.add_comm]
      replace hox := of_tk (e1.trans e2).tk hox
      refine s_gTup (SqT.of ht) rfl ?_
      walk_at "z"
      refine ⟨rfl, ?_⟩
      walk_at "z"
      cases o with
      | none =>
        replace hox : x = .non := hox
        subst hox
        walk_at "z"
        refine c_skip (e2 _ _ hD) hn ⟨nD, e1.trans e2⟩ ?_
        rw [nx]
        show RFs K H2 acc (_ ++ [])
        rw [List.append_nil]
        exact rfs_ex e2 r
      | some f =>
        obtain ⟨a, zs, rfl, ha, hzs⟩ := id hox
        walk_at "z"
        rename_i q H3 nq e3 hq
        refine c_put (e3 _ _ (e2 _ _ hD)) ⟨hn, by omega⟩ fun H4 f4 _ => ⟨⟨nD, ((e1.trans e2).trans e3).fr2 nD f4⟩, ?_⟩
        have t4 := tk_lst (K := K) f4 (e3 _ _ (e2 _ _ hD))
        rw [nx]
        refine rfs_snoc (t4 _ _ (SqT.of (by rw [show ((i + 1 : Nat) : Int) = 1 + (i : Nat) from by omega]; exact hq))) (rf_map (fun z => t4 _ _ (e3.sqT z)) hox) (rfs_map (fun z => t4 _ _ z) (rfs_ex (e2.trans e3) r))
    · obtain ⟨nD, e1⟩ := Iv
      rw [List.take_of_length_le (by omega)] at r
      exact k D acc H1 nD e1 hD r
def standF (st : Stt) (n : Int) : Option Fct := if 1 ≤ n then (st[(n - 1).toNat]?).getD none else none
theorem cut_to {xs : List V} {m : Int} (h0 : 0 ≤ m) (h : m ≤ xs.length) : cutV xs none (some m) = xs.take m.toNat := by
  unfold cutV HT.sIx
  dsimp only
  rw [if_neg (by omega), List.drop_zero, Nat.min_eq_left (by omega), Nat.sub_zero]
theorem cut_from {xs : List V} {m : Int} (h0 : 0 ≤ m) (h : m ≤ xs.length) : cutV xs (some m) none = xs.drop m.toNat := by
  unfold cutV HT.sIx
  dsimp only
  rw [if_neg (by omega), Nat.min_eq_left (by omega), List.take_of_length_le (by rw [List.length_drop]; exact Nat.le_refl _)]
/-- a fact is told -/
def spTell (K : PySem.W.Frag) (C Cb Cf : Addr) : Sp := fun vs H Q E => ∃ (r S U : Addr) (v : V) (f : Fct) (st : Stt) (sts uns : List Stt), vs = [.ref r, v] ∧ RollAt K C H r S U sts uns ∧ sts.getLast? = some st ∧ st.length ≤ 1000 ∧ sts.length ≤ 1000 ∧ RF K H v f ∧ Bent f ∧
  (placeF f = none → st.length < 120 → ∀ H', Fr2 S U H H' → RollAt K C H' r S U (sts ++ [st ++ [some f]]) [] → Q (.int ((st.length : Nat) + 1)) H') ∧
  (∀ p, placeF f = some p → ∀ H' d, Ex H H' → H' d = none → E (.ref Cb) (some d) (upd H' d (.xd [("place", .int (p : Nat)), ("called", .str "BadFact")]))) ∧
  (placeF f = none → 120 ≤ st.length → ∀ H' d, Ex H H' → H' d = none → E (.ref Cf) (some d) (upd H' d (.xd [("called", .str "Full")])))
theorem sc_c_Roll_tell : FnScope ["self", "fact", "state"] ["self", "fact"] (defScope s_c_Roll_tell) :=
  ⟨rfl, rfl, rfl, by decide +kernel, rfl, by decide +kernel, by decide +kernel⟩
theorem ok_c_Roll_tell (T : Tx P K mg w) : FnOk P w K mg base (L2N.CX P w) 5 T.f_c_Roll_tell T.d_c_Roll_tell ["self", "fact"] (spTell K T.C_Roll T.C_BadFact T.C_Full) := by
  refine L2H.okXN T.F_c_Roll_tell sc_c_Roll_tell (fun vs H Q E h => ?_) (fun cdv A outer s H vs Q E hr h => ?_)
  · obtain ⟨r, S, U, v, f, st, sts, uns, rfl, _⟩ := h
    rfl
  · obtain ⟨r, S, U, v, f, st, sts, uns, rfl, hR, hl, hz, hsz, hv, hb, k1, k2, k3⟩ := h
    refine ⟨_, (pss_cons (ps_expr (pe_call (ok_p_need_fact T) (hr.mono (by decide)) rfl T.g_p_need_fact T.F_p_need_fact.kp T.b_p_need_fact .nil (L2H.passesN (L2N.takes_of rfl rfl rfl rfl) fun _ _ _ _ h => h) (pa_cons (pv 1) pa_nil))) (pss_cons (ps_set (i := 2) sc_c_Roll_tell.nd rfl (Or.inl rfl) (pe_ix (r := rIxL K) ix_list (pe_fld (pv 0) rfl) (pe_un un_neg pe_int) (fun _ _ => rfl))) (pss_cons (ps_if (pt_cmpR op_ge (pe_callB (r := Z.rLen K) cz_len (by rfl) T.z_len PySem.boot_len (pa_cons (pv 2) pa_nil)) (pe_glob (v := .int 120) rfl T.k_MOST_FACTS ⟨_, rfl⟩) (nomark _)) (pss_one (L2N.ps_raise rfl (L2N.takes_of rfl rfl rfl rfl) (L2H.pmk_oxN T.pk_Full.ox T.in_Full T.FS_c_PikeError_init.ty (ok_c_PikeError_init T) (hr.mono (by decide)) T.b_c_PikeError_init .nil pass0 rfl T.g_Full (pa_cons (pz_fstr (PJ.cons (pe_fmt (pe_glob (v := .int 120) rfl T.k_MOST_FACTS ⟨_, rfl⟩)) (PJ.cons pe_str PJ.nil))) pa_nil)))) pss_nil) (pss_cons (ps_expr (pe_meth (pv 0) T.cls_Roll ⟨T.at_c_Roll_enter, T.fn_c_Roll_enter, T.F_c_Roll_enter.kp⟩ (ok_c_Roll_enter T) (hr.mono (by decide)) T.b_c_Roll_enter .nil pass0 (pa_cons (pe_tup (pa_starT (pv 2) (pa_cons (pv 1) pa_nil))) pa_nil))) (pss_one (ps_ret (pe_op op_add (pe_callB (r := Z.rLen K) cz_len (by rfl) T.z_len PySem.boot_len (pa_cons (pv 2) pa_nil)) pe_int))))))), ?_⟩
    refine at_start (ρ' := [some _, some _, none]) rfl ?_
    walk_at "z0"
    walk_at "z"
    refine ⟨v, f, rfl, hv, hb, fun hpl H1 e1 => ?_, k2⟩
    replace hR := hR.ex e1
    replace hv := rf_map (fun z => e1.sqT z) hv
    obtain ⟨⟨dx, h1⟩, ⟨sv, h2, h3⟩, _, _⟩ := id hR
    obtain ⟨v0, hv0, p, vs, rfl, hp, hof⟩ := all2_last h3 hl
    have hvl := hof.len
    walk_at "z"
    refine s_fldGet h1 T.cls_Roll T.na_Roll_states rfl ?_
    walk_at "z"
    refine s_ixL (SqL.of h2) (last_at hv0) ?_
    walk_at "z"
    refine ite_dec (fun h8 => ?_) (fun h8 => ?_)
    · walk_at "z"
      refine s_mkO ?_
      walk_at "z"
      refine s_fmtI (log_small (by decide) (by decide)) ?_
      refine s_jsV (by rw [Str_len_app]; exact sz (by decide +kernel)) ?_
      walk_at "z"
      refine s_jsV (by rw [Str_len_app]; exact sz (by decide +kernel)) ?_
      walk_at "z"
      exact use_pike T.pk_Full fun d hd => k3 hpl (by omega) H1 d e1 hd
    · walk_at "z"
      refine s_methA ?_
      walk_at "z"
      refine ⟨r, dx, _, rfl, h1, rfl, ?_⟩
      walk_at "z"
      refine s_star ?_
      walk_at "z"
      refine ⟨p, _, rfl, hp, ?_⟩
      walk_at "z1"
      walk_at "z1"
      walk_at "z1"
      refine s_newS (sz (by rw [List.length_append]; show vs.length + 1 ≤ 100000; omega)) fun q3 H3 nq3 e3 hq3 => ?_
      walk_at "z"
      refine ⟨r, S, U, .ref q3, st ++ [some f], sts, uns, rfl, hR.ex e3, ⟨q3, _, rfl, SqT.of hq3, (hof.mono fun _ _ z => of_tk e3.tk z).snoc (rf_map (fun z => e3.sqT z) hv)⟩, by omega, fun H4 f4 hR4 => ?_⟩
      have t4 : Tk K H3 H4 := by
        obtain ⟨_, ⟨sv3, g1, _⟩, ⟨uv3, g2, _⟩, _⟩ := hR.ex e3
        exact tk_f2 f4 g1 g2
      have hp4 := t4 _ _ (e3.sqT hp)
      walk_at "z"
      rw [hvl]
      exact k1 hpl (by omega) H4 (Fr2.trans (Ex.f2 (e1.trans e3)) f4) hR4
theorem stand_in {st : Stt} {n : Int} {f : Fct} (h : standF st n = some f) : 1 ≤ n ∧ n ≤ st.length ∧ st[(n - 1).toNat]? = some (some f) := by
  unfold standF at h
  by_cases h1 : 1 ≤ n
  · rw [if_pos h1] at h
    cases e : st[(n - 1).toNat]? with
    | none =>
      rw [e] at h
      cases h
    | some o =>
      rw [e] at h
      have : o = some f := h
      subst this
      have := (List.getElem?_eq_some_iff.mp e).1
      exact ⟨h1, by omega, rfl⟩
  · rw [if_neg h1] at h
    cases h
/-! the law's own roll: a dict of two -/
theorem pairs_from : ∀ (st : Stt) (i : Nat) (n : Int) (f : Fct), (n, f) ∈ pairsS i st ↔ ∃ j : Nat, st[j]? = some (some f) ∧ n = ((i + j : Nat) : Int)
  | [], i, n, f => ⟨fun h => (by cases h), fun ⟨j, h, _⟩ => (by cases h)⟩
  | none :: st, i, n, f => by
    show (n, f) ∈ pairsS (i + 1) st ↔ _
    rw [pairs_from st (i + 1) n f]
    constructor
    · rintro ⟨j, h, e⟩
      exact ⟨j + 1, h, by omega⟩
    · rintro ⟨j, h, e⟩
      cases j with
      | zero => cases h
      | succ j => exact ⟨j, h, by omega⟩
  | some g :: st, i, n, f => by
    show (n, f) ∈ _ :: pairsS (i + 1) st ↔ _
    rw [List.mem_cons, pairs_from st (i + 1) n f]
    constructor
    · rintro (h | ⟨j, h, e⟩)
      · cases h
        exact ⟨0, rfl, by omega⟩
      · exact ⟨j + 1, h, by omega⟩
    · rintro ⟨j, h, e⟩
      cases j with
      | zero =>
        cases h
        exact .inl (by rw [e]; rfl)
      | succ j => exact .inr ⟨j, h, by omega⟩
theorem pairs_mem {st : Stt} {n : Int} {f : Fct} : (n, f) ∈ pairsS 1 st ↔ standF st n = some f := by
  rw [pairs_from]
  constructor
  · rintro ⟨j, h, e⟩
    unfold standF
    rw [if_pos (by omega), show (n - 1).toNat = j from by omega, h]
    rfl
  · intro h
    obtain ⟨h1, h2, h3⟩ := stand_in h
    exact ⟨_, h3, by omega⟩
theorem pairs_len : ∀ (st : Stt) (i : Nat), (pairsS i st).length ≤ st.length
  | [], _ => Nat.le_refl _
  | none :: st, i => Nat.le_succ_of_le (pairs_len st (i + 1))
  | some f :: st, i => Nat.succ_le_succ (pairs_len st (i + 1))
/-- the dict of what stands -/
structure KeyS (K : PySem.W.Frag) (H : Hp) (kvs : List (Key × V)) (st : Stt) : Prop where
  keys : ∃ ks : List Int, kvs.map (·.1) = ks.map Sum.inl ∧ ks.Nodup
  val : ∀ n v, valV kvs (Sum.inl n) = some v → ∃ f, standF st n = some f ∧ RF K H v f
  all : ∀ n f, standF st n = some f → ∃ v, valV kvs (Sum.inl n) = some v
theorem KeyS.tk {H H' : Hp} {kvs : List (Key × V)} {st : Stt} (t : Tk K H H') (h : KeyS K H kvs st) : KeyS K H' kvs st :=
  ⟨h.keys, fun n v hv => by
    obtain ⟨f, h1, h2⟩ := h.val n v hv
    exact ⟨f, h1, rf_map (fun z => t _ _ z) h2⟩, h.all⟩
def mKvs (D : Addr) (n : Nat) : List (Key × V) := [(.inr "facts", .ref D), (.inr "told", .int (n : Nat))]
structure ModelAt (K : PySem.W.Frag) (H : Hp) (M D : Addr) (st : Stt) : Prop where
  cm : H M = some (.dK (mKvs D st.length))
  cd : ∃ kvs, H D = some (.dK kvs) ∧ KeyS K H kvs st
  ne : M ≠ D
theorem ModelAt.ex {H H' : Hp} {M D : Addr} {st : Stt} (h : ModelAt K H M D st) (e : Ex H H') : ModelAt K H' M D st := by
  obtain ⟨h1, ⟨kvs, h2, h3⟩, h4⟩ := h
  exact ⟨e _ _ h1, ⟨kvs, e _ _ h2, h3.tk e.tk⟩, h4⟩
theorem ModelAt.fr {H H' : Hp} {M D b : Addr} {ys : List V} {st : Stt} (h : ModelAt K H M D st) (f : Fr b H H') (hb : H b = some (.lst ys)) : ModelAt K H' M D st := by
  obtain ⟨h1, ⟨kvs, h2, h3⟩, h4⟩ := h
  exact ⟨f _ _ (ne_of h1 hb (fun z => by cases z)) h1, ⟨kvs, f _ _ (ne_of h2 hb (fun z => by cases z)) h2, h3.tk (tk_lst f hb)⟩, h4⟩
theorem ModelAt.f2 {H H' : Hp} {M D a b : Addr} {xs ys : List V} {st : Stt} (h : ModelAt K H M D st) (f : Fr2 a b H H') (ha : H a = some (.lst xs)) (hb : H b = some (.lst ys)) : ModelAt K H' M D st := by
  obtain ⟨h1, ⟨kvs, h2, h3⟩, h4⟩ := h
  exact ⟨f _ _ (ne_of h1 ha (fun z => by cases z)) (ne_of h1 hb (fun z => by cases z)) h1, ⟨kvs, f _ _ (ne_of h2 ha (fun z => by cases z)) (ne_of h2 hb (fun z => by cases z)) h2, h3.tk (tk_f2 f ha hb)⟩, h4⟩
theorem nodup_sub_len {α : Type} [DecidableEq α] : ∀ {l m : List α}, l.Nodup → (∀ x ∈ l, x ∈ m) → l.length ≤ m.length
  | [], m, _, _ => Nat.zero_le _
  | x :: l, m, nd, h => by
    have hx := h x List.mem_cons_self
    obtain ⟨n1, n2⟩ := List.nodup_cons.mp nd
    have ih := nodup_sub_len (l := l) (m := m.erase x) n2 fun y hy => (List.mem_erase_of_ne (fun z => n1 (by rw [← z]; exact hy))).mpr (h y (List.mem_cons_of_mem _ hy))
    rw [List.length_erase_of_mem hx] at ih
    have := List.length_pos_of_mem hx
    rw [List.length_cons]
    omega
/-! deeds and what comes of them -/
inductive Deed where
  | tell (f : Fct)
  | right (n : Int) (f : Fct)
  | strike (n : Int)
inductive Out where
  | num (n : Int)
  | fact (f : Fct)
  | noFact (n : Int)
  | badFact (p : Nat)
  | other
  | full
def Out.ds : Out → List PyData
  | .num n => [.str "", .int n]
  | .fact f => [.str "", f.enc]
  | .noFact n => [.str "NoFact", .int n]
  | .badFact p => [.str "BadFact", .int (p : Nat)]
  | .other => [.str "Other", .none]
  | .full => [.str "Full", .none]
def Out.ok : Out → Bool
  | .num _ => true
  | .fact _ => true
  | _ => false
def DeedAt (K : PySem.W.Frag) (H : Hp) (v : V) : Deed → Prop
  | .tell f => ∃ a u, v = .ref a ∧ SqT K H a [.str "tell", u] ∧ RF K H u f
  | .right n f => ∃ a u, v = .ref a ∧ SqT K H a [.str "right", .int n, u] ∧ RF K H u f
  | .strike n => ∃ a, v = .ref a ∧ SqT K H a [.str "strike", .int n]
theorem DeedAt.tk {H H' : Hp} (t : Tk K H H') {v : V} {d : Deed} (h : DeedAt K H v d) : DeedAt K H' v d := by
  cases d with
  | tell f =>
    obtain ⟨a, u, h1, h2, h3⟩ := h
    exact ⟨a, u, h1, t _ _ h2, rf_map (fun z => t _ _ z) h3⟩
  | right n f =>
    obtain ⟨a, u, h1, h2, h3⟩ := h
    exact ⟨a, u, h1, t _ _ h2, rf_map (fun z => t _ _ z) h3⟩
  | strike n =>
    obtain ⟨a, h1, h2⟩ := h
    exact ⟨a, h1, t _ _ h2⟩
/-! the roll against the law's own -/
/-- tuples that are short enough -/
def Short (f : Fct) : Prop := f.xs.length ≤ 8 ∧ ∀ l, Arg.t l ∈ f.xs → l.length ≤ 60
theorem use_like24 {n : Nat} {H : Hp} {Q : VK} {E : XK} {x y : V} {d : PyData} (h1 : Dp K H x d) (h2 : Dp K H y d) (h3 : DOk n d) (k : ∀ H', Ex H H' → Q (.bl true) H') : spLike K n ([x, y] ++ []) H Q E := ⟨x, y, d, rfl, h1, h2, h3, k⟩
theorem s_meth24 {C : Addr} {m : Str} {sp : Sp} {dvs : List V} {E : XK} {ta : TE} {t : TA} {σ : L2.St} {H : Hp} {Q : VK} (k : ta σ H fun x H1 => ∃ a dx fs, x = .ref a ∧ H1 a = some (.ins C dx fs) ∧ fs.lookup m = none ∧ t σ H1 fun vs H2 => sp (x :: (vs ++ dvs)) H2 Q E) : tMeth C m sp dvs E ta t σ H Q := k
/-! what stands is good -/
theorem fb_all : ∀ {ks : List Str} {xs : List Arg} {i : Nat}, firstBad i ks xs = none → ks.length = xs.length → All2 (fun k x => argOk k x = true) ks xs
  | [], [], _, _, _ => .nil
  | [], _ :: _, _, _, h => (by cases h)
  | _ :: _, [], _, _, h => (by cases h)
  | k :: ks, x :: xs, i, h, hl => by
    rw [firstBad] at h
    by_cases e : argOk k x = true
    · rw [if_pos e] at h
      exact .cons e (fb_all h (Nat.succ.inj hl))
    · rw [if_neg e] at h
      cases h
theorem all2_and {α β : Type} {R S : α → β → Prop} : ∀ {as : List α} {bs : List β}, All2 R as bs → (∀ (i : Nat) a b, as[i]? = some a → bs[i]? = some b → S a b) → All2 (fun a b => R a b ∧ S a b) as bs
  | _, _, .nil, _ => .nil
  | _, _, .cons h r, g => .cons ⟨h, g 0 _ _ rfl rfl⟩ (all2_and r fun i a b h1 h2 => g (i + 1) a b (by simpa using h1) (by simpa using h2))
theorem num_arg {k : Str} {lo hi : Int} {x : Arg} (hb : bndOf k = (lo, some hi)) (hg : k ≠ "gates") (h : argOk k x = true ∧ Suits k x) : ∃ n, x = .i n ∧ R lo hi n := by
  cases x with
  | t l => exact absurd h.2.1 hg
  | i n =>
    have h1 : within (bndOf k).1 (bndOf k).2 n = true := h.1
    rw [hb] at h1
    have h2 : (decide (lo ≤ n) && decide (n ≤ hi)) = true := h1
    rw [Bool.and_eq_true] at h2
    exact ⟨n, rfl, of_decide_eq_true h2.1, of_decide_eq_true h2.2⟩
theorem num_arg1 {x : Arg} (h : argOk "number" x = true ∧ Suits "number" x) : ∃ n, x = .i n ∧ 1 ≤ n := by
  cases x with
  | t l => exact absurd h.2.1 (by decide +kernel)
  | i n =>
    have h1 : within (bndOf "number").1 (bndOf "number").2 n = true := h.1
    rw [show bndOf "number" = (1, none) from by decide +kernel] at h1
    have h2 : (decide ((1 : Int) ≤ n) && true) = true := h1
    rw [Bool.and_eq_true] at h2
    exact ⟨n, rfl, of_decide_eq_true h2.1⟩
theorem tup_arg {x : Arg} (h : argOk "gates" x = true ∧ Suits "gates" x) : ∃ l, x = .t l ∧ Rising l ∧ ∀ y ∈ l, R 0 7 y := by
  cases x with
  | i n => exact absurd h.2.1 (by decide +kernel)
  | t l =>
    have h1 : (l.all (within 0 (some 7)) && decide (l.Pairwise (· < ·))) = true := h.1
    rw [Bool.and_eq_true] at h1
    have h2 : l.Pairwise (· < ·) := of_decide_eq_true h1.2
    exact ⟨l, rfl, h2, fun y hy => (within_gate y).mp (List.all_eq_true.mp h1.1 y hy)⟩
theorem inv2 {α β : Type} {R : α → β → Prop} {a b : α} {xs : List β} (h : All2 R [a, b] xs) : ∃ x y, xs = [x, y] ∧ R a x ∧ R b y := by
  cases h with
  | cons h1 r =>
    cases r with
    | cons h2 r =>
      cases r
      exact ⟨_, _, rfl, h1, h2⟩
theorem inv1 {α β : Type} {R : α → β → Prop} {a : α} {as : List α} {xs : List β} (h : All2 R (a :: as) xs) : ∃ x ys, xs = x :: ys ∧ R a x ∧ All2 R as ys := by
  cases h with
  | cons h1 r => exact ⟨_, _, rfl, h1, r⟩
theorem place_gf {f : Fct} (bt : Bent f) (hp : placeF f = none) : GF f := by
  obtain ⟨w, xs⟩ := f
  have h1 := bt.word
  have h3 := bt.suits
  dsimp only at h1 h3
  unfold placeF at hp
  dsimp only at hp
  have key : ∀ ks, shapeOf w = some ks → All2 (fun k x => argOk k x = true ∧ Suits k x) ks xs := fun ks e => by
    rw [e] at hp
    dsimp only at hp
    by_cases hl : ks.length = xs.length
    · rw [if_pos hl] at hp
      exact all2_and (fb_all hp hl) fun i a b => h3 ks e hl i a b
    · rw [if_neg hl] at hp
      cases hp
  have no : shapeOf w = none → GF ⟨w, xs⟩ := fun e => by
    rw [e] at hp
    cases hp
  have dg : ∀ {x : Arg}, argOk "gate" x = true ∧ Suits "gate" x → ∃ n, x = .i n ∧ R 0 7 n := num_arg (by decide +kernel) (by decide +kernel)
  have dd : ∀ {x : Arg}, argOk "day" x = true ∧ Suits "day" x → ∃ n, x = .i n ∧ R 0 999 n := num_arg (by decide +kernel) (by decide +kernel)
  have dc : ∀ {x : Arg}, argOk "carriage" x = true ∧ Suits "carriage" x → ∃ n, x = .i n ∧ R 0 9 n := num_arg (by decide +kernel) (by decide +kernel)
  have dm : ∀ {x : Arg}, argOk "minute" x = true ∧ Suits "minute" x → ∃ n, x = .i n ∧ R 0 1439 n := num_arg (by decide +kernel) (by decide +kernel)
  clear hp h3
  simp only [wordsOf, List.mem_cons, List.not_mem_nil, or_false] at h1
  rcases h1 with rfl | rfl | rfl | rfl | rfl | rfl | rfl | rfl | rfl | rfl | rfl | rfl | rfl
  · have h := key ["gate", "day", "toll"] (by decide +kernel)
    obtain ⟨_, _, rfl, a, h⟩ := inv1 h
    obtain ⟨_, _, rfl, b, c⟩ := inv2 h
    obtain ⟨n1, rfl, g1⟩ := dg a
    obtain ⟨n2, rfl, g2⟩ := dd b
    obtain ⟨n3, rfl, g3⟩ := num_arg (lo := 0) (hi := 48) (by decide +kernel) (by decide +kernel) c
    exact .toll g1 g2 g3
  · have h := key ["gate", "day", "gates"] (by decide +kernel)
    obtain ⟨_, _, rfl, a, h⟩ := inv1 h
    obtain ⟨_, _, rfl, b, c⟩ := inv2 h
    obtain ⟨n1, rfl, g1⟩ := dg a
    obtain ⟨n2, rfl, g2⟩ := dd b
    obtain ⟨l, rfl, g3, g4⟩ := tup_arg c
    exact .board g1 g2 g3 g4
  · have h := key ["gate", "day", "trust"] (by decide +kernel)
    obtain ⟨_, _, rfl, a, h⟩ := inv1 h
    obtain ⟨_, _, rfl, b, c⟩ := inv2 h
    obtain ⟨n1, rfl, g1⟩ := dg a
    obtain ⟨n2, rfl, g2⟩ := dd b
    obtain ⟨n3, rfl, g3⟩ := num_arg (lo := 0) (hi := 3) (by decide +kernel) (by decide +kernel) c
    exact .trust g1 g2 g3
  · have h := key ["carriage", "day", "day"] (by decide +kernel)
    obtain ⟨_, _, rfl, a, h⟩ := inv1 h
    obtain ⟨_, _, rfl, b, c⟩ := inv2 h
    obtain ⟨n1, rfl, g1⟩ := dc a
    obtain ⟨n2, rfl, g2⟩ := dd b
    obtain ⟨n3, rfl, g3⟩ := dd c
    exact .folk g1 g2 g3
  · have h := key ["gate", "carriage", "day", "day"] (by decide +kernel)
    obtain ⟨_, _, rfl, a, h⟩ := inv1 h
    obtain ⟨_, _, rfl, b, h⟩ := inv1 h
    obtain ⟨_, _, rfl, c, d⟩ := inv2 h
    obtain ⟨n1, rfl, g1⟩ := dg a
    obtain ⟨n2, rfl, g2⟩ := dc b
    obtain ⟨n3, rfl, g3⟩ := dd c
    obtain ⟨n4, rfl, g4⟩ := dd d
    exact .bargain g1 g2 g3 g4
  · have h := key ["day", "minute", "gate", "carriage", "horses"] (by decide +kernel)
    obtain ⟨_, _, rfl, a, h⟩ := inv1 h
    obtain ⟨_, _, rfl, b, h⟩ := inv1 h
    obtain ⟨_, _, rfl, c, h⟩ := inv1 h
    obtain ⟨_, _, rfl, d, e⟩ := inv2 h
    obtain ⟨n1, rfl, g1⟩ := dd a
    obtain ⟨n2, rfl, g2⟩ := dm b
    obtain ⟨n3, rfl, g3⟩ := dg c
    obtain ⟨n4, rfl, g4⟩ := dc d
    obtain ⟨n5, rfl, g5⟩ := num_arg (lo := 1) (hi := 8) (by decide +kernel) (by decide +kernel) e
    exact .pass g1 g2 g3 g4 g5
  · have h := key ["number", "minute"] (by decide +kernel)
    obtain ⟨_, _, rfl, a, b⟩ := inv2 h
    obtain ⟨n1, rfl, g1⟩ := num_arg1 a
    obtain ⟨n2, rfl, g2⟩ := dm b
    exact .lost g1 g2
  · have h := key ["carriage", "day", "payment"] (by decide +kernel)
    obtain ⟨_, _, rfl, a, h⟩ := inv1 h
    obtain ⟨_, _, rfl, b, c⟩ := inv2 h
    obtain ⟨n1, rfl, g1⟩ := dc a
    obtain ⟨n2, rfl, g2⟩ := dd b
    obtain ⟨n3, rfl, g3⟩ := num_arg (lo := 0) (hi := 100000) (by decide +kernel) (by decide +kernel) c
    exact .paid g1 g2 g3
  all_goals exact no (by decide +kernel)
theorem short_gf {f : Fct} (g : GF f) : Short f := by
  cases g with
  | @board g d gs a b c d =>
    refine ⟨by show 3 ≤ 8; decide, fun l hl => ?_⟩
    simp only [List.mem_cons, List.not_mem_nil, or_false] at hl
    rcases hl with h | h | h
    · cases h
    · cases h
    · cases h
      exact Nat.le_trans (rise_len c d) (by decide)
  | pass => exact ⟨by show 5 ≤ 8; decide, fun l hl => by simp at hl⟩
  | bargain => exact ⟨by show 4 ≤ 8; decide, fun l hl => by simp at hl⟩
  | lost => exact ⟨by show 2 ≤ 8; decide, fun l hl => by simp at hl⟩
  | _ => exact ⟨by show 3 ≤ 8; decide, fun l hl => by simp at hl⟩
/-! a fact's words -/
def iTx (i : Int) : Str := toString i
def argW : Arg → List Str
  | .i n => [iTx n]
  | .t l => l.map iTx
def partsF (f : Fct) : List (List Str) := [f.w] :: f.xs.map argW
def wordsF (f : Fct) : List Str := (partsF f).flatten
def textF (f : Fct) : Str := Txt.join " " (wordsF f)
theorem iTx_len {n : Int} (h : n.natAbs.log2 < 1920) : (iTx n).length ≤ 1921 := PyProof.Rows.int_text_len_1921 h
/-- its words are few and small -/
structure Sml (f : Fct) : Prop where
  num : ∀ n, Arg.i n ∈ f.xs → n.natAbs.log2 < 1920
  tup : ∀ l, Arg.t l ∈ f.xs → l.length ≤ 60 ∧ ∀ n ∈ l, n.natAbs.log2 < 1920
  few : (wordsF f).length ≤ 66
  len : ∀ s ∈ wordsF f, s.length ≤ 1921
def OkA : Arg → Prop
  | .i n => -(2 ^ 200) ≤ n ∧ n ≤ 2 ^ 200
  | .t l => l.length ≤ 60 ∧ ∀ n ∈ l, -(2 ^ 200) ≤ n ∧ n ≤ 2 ^ 200
theorem sml_of {f : Fct} (hw : f.w.length ≤ 1921) (ha : ∀ x ∈ f.xs, OkA x) (hf : (wordsF f).length ≤ 66) : Sml f := by
  refine ⟨fun n hn => log_small (ha _ hn).1 (ha _ hn).2, fun l hl => ⟨(ha _ hl).1, fun n hn => log_small ((ha _ hl).2 n hn).1 ((ha _ hl).2 n hn).2⟩, hf, fun s hs => ?_⟩
  unfold wordsF partsF at hs
  rw [List.flatten_cons, List.mem_append] at hs
  rcases hs with hs | hs
  · rw [List.mem_singleton.mp hs]
    exact hw
  · obtain ⟨l, hl, hs⟩ := List.mem_flatten.mp hs
    obtain ⟨x, hx, rfl⟩ := List.mem_map.mp hl
    cases x with
    | i n =>
      rw [List.mem_singleton.mp hs]
      exact iTx_len (log_small (ha _ hx).1 (ha _ hx).2)
    | t l =>
      obtain ⟨n, hn, rfl⟩ := List.mem_map.mp hs
      exact iTx_len (log_small ((ha _ hx).2 n hn).1 ((ha _ hx).2 n hn).2)
theorem sml_gf {f : Fct} (b : Bent f) (hp : placeF f = none) : Sml f := by
  have g := place_gf b hp
  have sh := short_gf g
  cases g with
  | toll h1 h2 h3 =>
    obtain ⟨⟨a1, a2⟩, ⟨a3, a4⟩, ⟨a5, a6⟩⟩ := And.intro h1 (And.intro h2 h3)
    exact sml_of (by dsimp only; decide +kernel) (by simp only [List.forall_mem_cons, OkA]; exact ⟨⟨by omega, by omega⟩, ⟨by omega, by omega⟩, ⟨by omega, by omega⟩, fun _ h => by cases h⟩) (by simp [wordsF, partsF, argW])
  | @board g d gs h1 h2 h3 h4 =>
    obtain ⟨⟨a1, a2⟩, ⟨a3, a4⟩⟩ := And.intro h1 h2
    have hl := sh.2 gs (by simp)
    exact sml_of (by dsimp only; decide +kernel) (by simp only [List.forall_mem_cons, OkA]; exact ⟨⟨by omega, by omega⟩, ⟨by omega, by omega⟩, ⟨hl, fun n hn => by have := h4 n hn; exact ⟨by have := this.1; omega, by have := this.2; omega⟩⟩, fun _ h => by cases h⟩) (by simp [wordsF, partsF, argW]; omega)
  | trust h1 h2 h3 =>
    obtain ⟨⟨a1, a2⟩, ⟨a3, a4⟩, ⟨a5, a6⟩⟩ := And.intro h1 (And.intro h2 h3)
    exact sml_of (by dsimp only; decide +kernel) (by simp only [List.forall_mem_cons, OkA]; exact ⟨⟨by omega, by omega⟩, ⟨by omega, by omega⟩, ⟨by omega, by omega⟩, fun _ h => by cases h⟩) (by simp [wordsF, partsF, argW])
  | folk h1 h2 h3 =>
    obtain ⟨⟨a1, a2⟩, ⟨a3, a4⟩, ⟨a5, a6⟩⟩ := And.intro h1 (And.intro h2 h3)
    exact sml_of (by dsimp only; decide +kernel) (by simp only [List.forall_mem_cons, OkA]; exact ⟨⟨by omega, by omega⟩, ⟨by omega, by omega⟩, ⟨by omega, by omega⟩, fun _ h => by cases h⟩) (by simp [wordsF, partsF, argW])
  | bargain h1 h2 h3 h4 =>
    obtain ⟨⟨a1, a2⟩, ⟨a3, a4⟩, ⟨a5, a6⟩, ⟨a7, a8⟩⟩ := And.intro h1 (And.intro h2 (And.intro h3 h4))
    exact sml_of (by dsimp only; decide +kernel) (by simp only [List.forall_mem_cons, OkA]; exact ⟨⟨by omega, by omega⟩, ⟨by omega, by omega⟩, ⟨by omega, by omega⟩, ⟨by omega, by omega⟩, fun _ h => by cases h⟩) (by simp [wordsF, partsF, argW])
  | pass h1 h2 h3 h4 h5 =>
    obtain ⟨⟨a1, a2⟩, ⟨a3, a4⟩, ⟨a5, a6⟩, ⟨a7, a8⟩, ⟨a9, a0⟩⟩ := And.intro h1 (And.intro h2 (And.intro h3 (And.intro h4 h5)))
    exact sml_of (by dsimp only; decide +kernel) (by simp only [List.forall_mem_cons, OkA]; exact ⟨⟨by omega, by omega⟩, ⟨by omega, by omega⟩, ⟨by omega, by omega⟩, ⟨by omega, by omega⟩, ⟨by omega, by omega⟩, fun _ h => by cases h⟩) (by simp [wordsF, partsF, argW])
  | @lost n m h1 h2 =>
    obtain ⟨a3, a4⟩ := h2
    obtain ⟨_, a1, a2⟩ := b.suits ["number", "minute"] (by dsimp only; decide +kernel) rfl 0 _ (.i n) rfl rfl
    exact sml_of (by dsimp only; decide +kernel) (by simp only [List.forall_mem_cons, OkA]; exact ⟨⟨by omega, by omega⟩, ⟨by omega, by omega⟩, fun _ h => by cases h⟩) (by simp [wordsF, partsF, argW])
  | paid h1 h2 h3 =>
    obtain ⟨⟨a1, a2⟩, ⟨a3, a4⟩, ⟨a5, a6⟩⟩ := And.intro h1 (And.intro h2 h3)
    exact sml_of (by dsimp only; decide +kernel) (by simp only [List.forall_mem_cons, OkA]; exact ⟨⟨by omega, by omega⟩, ⟨by omega, by omega⟩, ⟨by omega, by omega⟩, fun _ h => by cases h⟩) (by simp [wordsF, partsF, argW])
theorem sum_le {ys : List Str} {m : Nat} (h : ∀ s ∈ ys, s.length ≤ m) : (ys.map (·.length)).sum ≤ ys.length * m := by
  induction ys with
  | nil => exact Nat.zero_le _
  | cons y ys ih =>
    have h1 := h y List.mem_cons_self
    have h2 := ih fun s hs => h s (List.mem_cons_of_mem _ hs)
    rw [List.map_cons, List.sum_cons, List.length_cons, Nat.succ_mul]
    omega
theorem fds_at {H : Hp} : ∀ {vs : List V} {xs : List Arg} {i : Nat} {x : V}, FDs K H vs xs → vs[i]? = some x → ∃ y, xs[i]? = some y ∧ FD K H x y
  | _, _, 0, _, .cons a _, e => by
    cases e
    exact ⟨_, rfl, a⟩
  | _, _, i + 1, _, .cons _ r, e => by
    obtain ⟨y, h1, h2⟩ := fds_at (i := i) r (by simpa using e)
    exact ⟨y, by simpa using h1, h2⟩
theorem flat_take {α : Type} {xs : List (List α)} {i : Nat} {p : List α} (h : xs[i]? = some p) : (xs.take (i + 1)).flatten = (xs.take i).flatten ++ p := by
  rw [List.take_succ, h]
  show (xs.take i ++ [p]).flatten = _
  rw [List.flatten_append, List.flatten_cons, List.flatten_nil, List.append_nil]
theorem flat_le {α : Type} {xs : List (List α)} {i : Nat} : (xs.take i).flatten.length ≤ xs.flatten.length := by
  conv => rhs; rw [← List.take_append_drop i xs, List.flatten_append, List.length_append]
  omega
theorem ints_text {H : Hp} : ∀ {l : List Int} {i : Nat} {x : V}, (l.map V.int)[i]? = some x → ∃ n, l[i]? = some n ∧ x = .int n := fun {l i x} h => by
  rw [List.getElem?_map] at h
  obtain ⟨n, hn, rfl⟩ := Option.map_eq_some_iff.mp h
  exact ⟨n, hn, rfl⟩
/-- the text of a fact -/
def spText (K : PySem.W.Frag) : Sp := fun vs H Q _ => ∃ (v : V) (f : Fct), vs = [v] ∧ RF K H v f ∧ Sml f ∧ ∀ H', Ex H H' → Q (.str (textF f)) H'
theorem sc_p_fact_text : FnScope ["fact", "words", "thing", "number"] ["fact"] (defScope s_p_fact_text) :=
  ⟨rfl, rfl, rfl, by decide +kernel, rfl, by decide +kernel, by decide +kernel⟩
theorem ok_p_fact_text (T : Tx P K mg w) : FnOk P w K mg base CX0 1 T.f_p_fact_text T.d_p_fact_text ["fact"] (spText K) := by
  refine T.F_p_fact_text.ok sc_p_fact_text (fun vs H Q E h => ?_) (fun cdv A outer s H vs Q E hr h => ?_)
  · obtain ⟨v, f, rfl, _⟩ := h
    rfl
  · obtain ⟨v, f, rfl, ⟨a, us, rfl, ha, hus⟩, hs, k⟩ := h
    have hlu := fds_len hus
    refine ⟨_, (pss_cons (ps_set (i := 1) sc_p_fact_text.nd rfl (Or.inl rfl) (pe_lst pa_nil)) (pss_cons (ps_for PassesOwn.never rfl (pi_tup (pv 0)) (pg_name (i := 2) sc_p_fact_text.nd rfl (Or.inl rfl)) (pss_one (ps_if (pt_val (pe_callB (r := rIsi K) call_isi (by rfl) T.z_isinstance (by decide +kernel) (pa_cons (pv 2) (pa_cons (pe_bltn (v := .ty "tuple") rfl T.z_tuple (by decide +kernel) rfl) pa_nil)))) (pss_one (ps_expr (pe_bm PySem.F.plainAttrs_list PySem.F.slot_list_extend PySem.F.type_list_extend mt_extend (pv 1) (pa_cons (pe_lc (own := [("number", 3)]) (by rfl) sc_p_fact_text.nd (pi_tup (pv 2)) (blkOk_by (own := [("number", 3)]) (N := ["fact", "words", "thing", "number"]) (sc := defScope s_p_fact_text) (by decide +kernel)) (fun _ _ _ _ _ => (pg_name (i := 3) sc_p_fact_text.nd rfl (Or.inl rfl))) (fun _ _ _ _ _ => pts_nil) (fun _ _ _ _ _ => (pe_callTy cz_strInt (by rfl) T.z_str (by decide +kernel) (pa_cons (pv 3) pa_nil)))) pa_nil)))) (pss_one (ps_expr (pe_bm PySem.F.plainAttrs_list PySem.F.slot_list_append PySem.F.type_list_append mt_append (pv 1) (pa_cons (pe_callTy cr_strB (by rfl) T.z_str (by decide +kernel) (pa_cons (pv 2) pa_nil)) pa_nil))))))) (pss_one (ps_ret (pe_m1 (r := rJoin K) PySem.F.slot_str_join PySem.F.type_str_join mz_join pe_str (pv 1)))))), ?_⟩
    refine at_start (ρ' := [some _, none, none, none]) rfl ?_
    walk_at "z0"
    walk_at "z"
    rename_i q H1 nq e1 hq
    refine l_tup (.str f.w :: us) (fun i σ H' => ∃ v2 v3, σ = [some (.ref a), some (.ref q), v2, v3] ∧ Ex H H' ∧ H' q = some (.lst ((((partsF f).take i).flatten).map V.str))) ⟨_, _, rfl, e1, hq⟩ (fun i σ H' _ h => h.choose_spec.choose_spec.2.1.sqT ha) (fun i x σ H2 hx h => ?_) (fun σ H2 h => ?_)
    · obtain ⟨v2, v3, rfl, e2, hq2⟩ := h
      have hfl : ((partsF f).take i).flatten.length ≤ 66 := Nat.le_trans flat_le hs.few
      obtain ⟨p, hp, hpx⟩ : ∃ p, (partsF f)[i]? = some p ∧ ((∃ z, x = .str z ∧ p = [z]) ∨ ∃ y, y ∈ f.xs ∧ FD K H x y ∧ p = argW y) := by
        cases i with
        | zero =>
          cases hx
          exact ⟨_, rfl, .inl ⟨_, rfl, rfl⟩⟩
        | succ j =>
          obtain ⟨y, h1, h2⟩ := fds_at hus (by simpa using hx)
          refine ⟨argW y, by unfold partsF; rw [List.getElem?_cons_succ, List.getElem?_map, h1]; rfl, .inr ⟨y, List.mem_of_getElem? h1, h2, rfl⟩⟩
      have hnx := flat_take hp
      rcases hpx with ⟨z, rfl, rfl⟩ | ⟨y, hy, hd, rfl⟩
      · walk_at "z"
        refine s_strBS ?_
        walk_at "z"
        refine s_app hq2 (szl (by rw [List.length_map]; omega)) fun H3 f3 hq3 => ?_
        walk_at "z"
        exact ⟨_, _, rfl, e2.fr2 nq f3, by rw [hnx, List.map_append]; exact hq3⟩
      · cases hd with
        | i n =>
          walk_at "z"
          refine s_strBI (hs.num n hy) ?_
          walk_at "z"
          refine s_app hq2 (szl (by rw [List.length_map]; omega)) fun H3 f3 hq3 => ?_
          walk_at "z"
          exact ⟨_, _, rfl, e2.fr2 nq f3, by rw [hnx, List.map_append]; exact hq3⟩
        | @t b l hb =>
          obtain ⟨hl1, hl2⟩ := hs.tup l hy
          have hb2 := e2.sqT hb
          walk_at "z"
          refine c_tup (l.map V.int) hb2 (fun D H' => H2 D = none ∧ Ex H2 H') (fun D i acc H' => acc = (((l.take i).map iTx).map V.str)) (fun D H' n e _ => ⟨⟨n, e⟩, rfl⟩) (fun D H' Iv => Iv.2.sqT hb2) (fun D j acc H3 x hx Iv hD hn r => ?_) (fun D acc H3 Iv hD hn r => ?_)
          · obtain ⟨nD, e3⟩ := Iv
            obtain ⟨n, hn1, rfl⟩ := ints_text (H := H3) hx
            have hj := (List.getElem?_eq_some_iff.mp hn1).1
            walk_at "z"
            refine ⟨rfl, ?_⟩
            walk_at "z"
            refine s_rStrInt (hl2 n (List.mem_of_getElem? hn1)) ?_
            refine c_put hD ⟨hn, by omega⟩ fun H4 f4 _ => ⟨⟨nD, e3.fr2 nD f4⟩, ?_⟩
            rw [r, List.take_succ, hn1, List.map_append, List.map_append]
            rfl
          · obtain ⟨nD, e3⟩ := Iv
            rw [List.length_map, List.take_length] at r
            subst r
            walk_at "z"
            refine s_extend (e3 _ _ hq2) hD (sz (by rw [List.length_map, List.length_map, List.length_map]; omega)) fun H4 f4 hq4 => ?_
            walk_at "z"
            exact ⟨_, _, rfl, (e2.trans e3).fr2 nq f4, by rw [hnx, List.map_append]; exact hq4⟩
    · obtain ⟨v2, v3, rfl, e2, hq2⟩ := h
      rw [List.take_of_length_le (by unfold partsF; rw [List.length_cons, List.length_map, List.length_cons]; omega)] at hq2
      have hsum := sum_le hs.len
      have hf := hs.few
      walk_at "z"
      refine s_rJoin (wordsF f) (.inl (SqL.of hq2)) rfl ?_ ?_
      · have h1 : (wordsF f).length * 1921 ≤ 66 * 1921 := Nat.mul_le_mul_right _ hf
        have h2 : (Str.ofString " ").length = 1 := by decide +kernel
        rw [h2]
        omega
      · exact k _ e2
theorem textF_len {f : Fct} (h : Sml f) : (textF f).length ≤ 66 * 1922 := by
  have h1 := joinT_len " " (wordsF f)
  have h2 := sum_le h.len
  have h3 := h.few
  rw [show (Str.ofString " ").length = 1 from by decide +kernel] at h1
  show (Txt.join " " (wordsF f)).length ≤ _
  have h4 : (wordsF f).length * 1921 ≤ 66 * 1921 := Nat.mul_le_mul_right _ h3
  omega
def rowT (p : Int × Fct) : Str := iTx p.1 ++ " " ++ textF p.2 ++ "\n"
def pageT (st : Stt) : Str := Txt.join "" ((pairsS 1 st).map rowT)
theorem line16 : 16777216 ≤ sizeLine := by decide
theorem sp_len : (Str.ofString " ").length = 1 := by decide +kernel
theorem nl_len : (Str.ofString "\n").length = 1 := by decide +kernel
theorem rowT_len {p : Int × Fct} (h1 : p.1.natAbs.log2 < 1920) (h2 : Sml p.2) : (rowT p).length ≤ 128775 := by
  have a := iTx_len h1
  have b := textF_len h2
  unfold rowT
  rw [Str_len_app, Str_len_app, Str_len_app, sp_len, nl_len]
  omega
theorem rows_sum {st : Stt} (hz : st.length ≤ 120) (hs : ∀ n g, standF st n = some g → Sml g) : (((pairsS 1 st).map rowT).map (·.length)).sum + ((pairsS 1 st).map rowT).length * (Str.ofString "").length ≤ 16777216 := by
  have h1 := sum_le (ys := (pairsS 1 st).map rowT) (m := 128775) fun s hs' => by
    obtain ⟨p, hp, rfl⟩ := List.mem_map.mp hs'
    have h := pairs_mem.mp hp
    obtain ⟨a, b, _⟩ := stand_in h
    exact rowT_len (log_small (by omega) (by omega)) (hs _ _ h)
  have h2 := pairs_len st 1
  rw [show (Str.ofString "").length = 0 from by decide +kernel, Nat.mul_zero]
  rw [List.length_map] at h1
  have h3 : (pairsS 1 st).length * 128775 ≤ 120 * 128775 := Nat.mul_le_mul_right _ (by omega)
  omega
/-- the page of a roll -/
def spPage (K : PySem.W.Frag) (C : Addr) : Sp := fun vs H Q _ => ∃ (r S U : Addr) (st : Stt) (sts uns : List Stt), vs = [.ref r] ∧ RollAt K C H r S U sts uns ∧ sts.getLast? = some st ∧ st.length ≤ 120 ∧ (∀ n g, standF st n = some g → Sml g) ∧ ∀ H', Ex H H' → Q (.str (pageT st)) H'
theorem sc_p_page_of : FnScope ["roll", "number", "fact"] ["roll"] (defScope s_p_page_of) :=
  ⟨rfl, rfl, rfl, by decide +kernel, rfl, by decide +kernel, by decide +kernel⟩
theorem ok_p_page_of (T : Tx P K mg w) : FnOk P w K mg base CX0 2 T.f_p_page_of T.d_p_page_of ["roll"] (spPage K T.C_Roll) := by
  refine T.F_p_page_of.ok sc_p_page_of (fun vs H Q E h => ?_) (fun cdv A outer s H vs Q E hr h => ?_)
  · obtain ⟨r, S, U, st, sts, uns, rfl, _⟩ := h
    rfl
  · obtain ⟨r, S, U, st, sts, uns, rfl, hR, hl, hz, hs, k⟩ := h
    obtain ⟨dx, h1⟩ := id hR.ob
    have hpl := pairs_len st 1
    refine ⟨_, (pss_one (ps_ret (pe_m1 (r := rJoin K) PySem.F.slot_str_join PySem.F.type_str_join mz_join pe_str (pe_lc (own := [("number", 1), ("fact", 2)]) (by rfl) sc_p_page_of.nd (pi_list (pe_meth0 (pv 0) T.cls_Roll ⟨T.at_c_Roll_facts, T.fn_c_Roll_facts, T.F_c_Roll_facts.kp⟩ (ok_c_Roll_facts T) (hr.mono (by decide)) T.b_c_Roll_facts .nil pass0)) (blkOk_by (own := [("number", 1), ("fact", 2)]) (N := ["roll", "number", "fact"]) (sc := defScope s_p_page_of) (by decide +kernel)) (fun _ _ _ _ _ => (pg_tupK (K := K) 2 rfl (by rfl) (pgs_cons (pg_name (i := 1) sc_p_page_of.nd rfl (Or.inl rfl)) (pgs_cons (pg_name (i := 2) sc_p_page_of.nd rfl (Or.inl rfl)) pgs_nil)))) (fun _ _ _ _ _ => pts_nil) (fun _ _ _ _ _ => (pz_fstr (PJ.cons (pe_fmt (pv 1)) (PJ.cons pe_str (PJ.cons (pe_fmt (pe_call (ok_p_fact_text T) (hr.mono (by decide)) rfl T.g_p_fact_text T.F_p_fact_text.kp T.b_p_fact_text .nil pass0 (pa_cons (pv 2) pa_nil))) (PJ.cons pe_str PJ.nil)))))))))), ?_⟩
    refine at_start (ρ' := [some _, none, none]) rfl ?_
    walk_at "z0"
    walk_at "z"
    refine s_meth24 ?_
    walk_at "z"
    refine ⟨r, dx, _, rfl, h1, rfl, ?_⟩
    walk_at "z"
    refine ⟨r, S, U, st, sts, uns, rfl, hR, hl, by omega, fun p vs H1 np e1 hp hvs => ?_⟩
    walk_at "z"
    have hvl := rfs_len hvs
    refine c_list vs (SqL.of hp) (fun D H' => H1 D = none ∧ Ex H1 H') (fun D i acc H' => acc = ((((pairsS 1 st).take i).map rowT).map V.str)) (fun D H' n e _ => ⟨⟨n, e⟩, rfl⟩) (fun D H' Iv => SqL.of (Iv.2 _ _ hp)) (fun D i acc H2 x hx Iv hD hn r => ?_) (fun D acc H2 Iv hD hn r => ?_)
    · obtain ⟨nD, e2⟩ := Iv
      obtain ⟨q, n, v, f, hpi, rfl, hq, hrf⟩ := rfs_get hvs hx
      have hst := pairs_mem.mp (List.mem_of_getElem? hpi)
      have hi : i < (pairsS 1 st).length := (List.getElem?_eq_some_iff.mp hpi).1
      obtain ⟨n1, n2, _⟩ := stand_in hst
      have hsm := hs n f hst
      have hlog := log_small (n := n) (by omega) (by omega)
      have hil := iTx_len hlog
      have htl := textF_len hsm
      have h16 := line16
      refine s_gTup (e2.sqT hq) rfl ?_
      walk_at "z"
      refine ⟨rfl, ?_⟩
      walk_at "z"
      refine s_fmtI hlog ?_
      refine s_jsV (by rw [Str_empty_app]; exact Nat.le_trans hil (by omega)) ?_
      rw [Str_empty_app]
      walk_at "z"
      refine s_jsV (by rw [Str_len_app, sp_len]; show (iTx n).length + 1 ≤ _; omega) ?_
      walk_at "z"
      refine ⟨v, f, rfl, rf_ex e2 hrf, hsm, fun H3 e3 => ?_⟩
      refine s_fmtS (by omega) ?_
      refine s_jsV (by rw [Str_len_app, Str_len_app, sp_len]; show (iTx n).length + 1 + _ ≤ _; omega) ?_
      walk_at "z"
      refine s_jsV (by rw [Str_len_app, Str_len_app, Str_len_app, sp_len, nl_len]; show (iTx n).length + 1 + _ + 1 ≤ _; omega) ?_
      walk_at "z"
      refine c_put (e3 _ _ hD) ⟨hn, by omega⟩ fun H4 f4 _ => ⟨⟨nD, (e2.trans e3).fr2 nD f4⟩, ?_⟩
      rw [r, List.take_succ, hpi, List.map_append, List.map_append]
      rfl
    · obtain ⟨nD, e2⟩ := Iv
      rw [hvl, List.take_length] at r
      subst r
      refine s_rJoin ((pairsS 1 st).map rowT) (.inl (SqL.of hD)) rfl (rows_sum hz hs) ?_
      exact k _ (e1.trans e2)

/-! the law's own page -/
theorem sc_l_text : FnScope ["_law_fact_here", "_law_words", "_law_part", "_law_one"] ["_law_fact_here"] (defScope s_l_text) :=
  ⟨rfl, rfl, rfl, by decide +kernel, rfl, by decide +kernel, by decide +kernel⟩
theorem ok_l_text (T : Tx P K mg w) : FnOk P w K mg base CX0 1 T.f_l_text T.d_l_text ["_law_fact_here"] (spText K) := by
  refine T.F_l_text.ok sc_l_text (fun vs H Q E h => ?_) (fun cdv A outer s H vs Q E hr h => ?_)
  · obtain ⟨v, f, rfl, _⟩ := h
    rfl
  · obtain ⟨v, f, rfl, ⟨a, us, rfl, ha, hus⟩, hs, k⟩ := h
    have hlu := fds_len hus
    refine ⟨_, (pss_cons (ps_set (i := 1) sc_l_text.nd rfl (Or.inl rfl) (pe_lst pa_nil)) (pss_cons (ps_for PassesOwn.never rfl (pi_tup (pv 0)) (pg_name (i := 2) sc_l_text.nd rfl (Or.inl rfl)) (pss_one (ps_expr (pe_bm PySem.F.plainAttrs_list PySem.F.slot_list_extend PySem.F.type_list_extend mt_extend (pv 1) (pa_cons (pe_ifExp (pt_val (pe_callB (r := rIsi K) call_isi (by rfl) T.z_isinstance (by decide +kernel) (pa_cons (pv 2) (pa_cons (pe_bltn (v := .ty "tuple") rfl T.z_tuple (by decide +kernel) rfl) pa_nil)))) (pe_lc (own := [("_law_one", 3)]) (by rfl) sc_l_text.nd (pi_tup (pv 2)) (blkOk_by (own := [("_law_one", 3)]) (N := ["_law_fact_here", "_law_words", "_law_part", "_law_one"]) (sc := defScope s_l_text) (by decide +kernel)) (fun _ _ _ _ _ => (pg_name (i := 3) sc_l_text.nd rfl (Or.inl rfl))) (fun _ _ _ _ _ => pts_nil) (fun _ _ _ _ _ => (pe_callTy cz_strInt (by rfl) T.z_str (by decide +kernel) (pa_cons (pv 3) pa_nil)))) (pe_lst (pa_cons (pe_callTy cr_strB (by rfl) T.z_str (by decide +kernel) (pa_cons (pv 2) pa_nil)) pa_nil))) pa_nil))))) (pss_one (ps_ret (pe_m1 (r := rJoin K) PySem.F.slot_str_join PySem.F.type_str_join mz_join pe_str (pv 1)))))), ?_⟩
    refine at_start (ρ' := [some _, none, none, none]) rfl ?_
    walk_at "z0"
    walk_at "z"
    rename_i q H1 nq e1 hq
    refine l_tup (.str f.w :: us) (fun i σ H' => ∃ v2 v3, σ = [some (.ref a), some (.ref q), v2, v3] ∧ Ex H H' ∧ H' q = some (.lst ((((partsF f).take i).flatten).map V.str))) ⟨_, _, rfl, e1, hq⟩ (fun i σ H' _ h => h.choose_spec.choose_spec.2.1.sqT ha) (fun i x σ H2 hx h => ?_) (fun σ H2 h => ?_)
    · obtain ⟨v2, v3, rfl, e2, hq2⟩ := h
      have hfl : ((partsF f).take i).flatten.length ≤ 66 := Nat.le_trans flat_le hs.few
      obtain ⟨p, hp, hpx⟩ : ∃ p, (partsF f)[i]? = some p ∧ ((∃ z, x = .str z ∧ p = [z]) ∨ ∃ y, y ∈ f.xs ∧ FD K H x y ∧ p = argW y) := by
        cases i with
        | zero =>
          cases hx
          exact ⟨_, rfl, .inl ⟨_, rfl, rfl⟩⟩
        | succ j =>
          obtain ⟨y, h1, h2⟩ := fds_at hus (by simpa using hx)
          refine ⟨argW y, by unfold partsF; rw [List.getElem?_cons_succ, List.getElem?_map, h1]; rfl, .inr ⟨y, List.mem_of_getElem? h1, h2, rfl⟩⟩
      have hnx := flat_take hp
      rcases hpx with ⟨z, rfl, rfl⟩ | ⟨y, hy, hd, rfl⟩
      · walk_at "z"
        refine s_strBS ?_
        walk_at "z"
        rename_i D H3 nD e3 hD
        refine s_extend (e3 _ _ hq2) hD (sz (by rw [List.length_map]; show _ + 1 ≤ _; omega)) fun H4 f4 hq4 => ?_
        walk_at "z"
        exact ⟨_, _, rfl, (e2.trans e3).fr2 nq f4, by rw [hnx, List.map_append]; exact hq4⟩
      · cases hd with
        | i n =>
          walk_at "z"
          refine s_strBI (hs.num n hy) ?_
          walk_at "z"
          rename_i D H3 nD e3 hD
          refine s_extend (e3 _ _ hq2) hD (sz (by rw [List.length_map]; show _ + 1 ≤ _; omega)) fun H4 f4 hq4 => ?_
          walk_at "z"
          exact ⟨_, _, rfl, (e2.trans e3).fr2 nq f4, by rw [hnx, List.map_append]; exact hq4⟩
        | @t b l hb =>
          obtain ⟨hl1, hl2⟩ := hs.tup l hy
          have hb2 := e2.sqT hb
          walk_at "z"
          refine c_tup (l.map V.int) hb2 (fun D H' => H2 D = none ∧ Ex H2 H') (fun D i acc H' => acc = (((l.take i).map iTx).map V.str)) (fun D H' n e _ => ⟨⟨n, e⟩, rfl⟩) (fun D H' Iv => Iv.2.sqT hb2) (fun D j acc H3 x hx Iv hD hn r => ?_) (fun D acc H3 Iv hD hn r => ?_)
          · obtain ⟨nD, e3⟩ := Iv
            obtain ⟨n, hn1, rfl⟩ := ints_text (H := H3) hx
            have hj := (List.getElem?_eq_some_iff.mp hn1).1
            walk_at "z"
            refine ⟨rfl, ?_⟩
            walk_at "z"
            refine s_rStrInt (hl2 n (List.mem_of_getElem? hn1)) ?_
            refine c_put hD ⟨hn, by omega⟩ fun H4 f4 _ => ⟨⟨nD, e3.fr2 nD f4⟩, ?_⟩
            rw [r, List.take_succ, hn1, List.map_append, List.map_append]
            rfl
          · obtain ⟨nD, e3⟩ := Iv
            rw [List.length_map, List.take_length] at r
            subst r
            walk_at "z"
            refine s_extend (e3 _ _ hq2) hD (sz (by rw [List.length_map, List.length_map, List.length_map]; omega)) fun H4 f4 hq4 => ?_
            walk_at "z"
            exact ⟨_, _, rfl, (e2.trans e3).fr2 nq f4, by rw [hnx, List.map_append]; exact hq4⟩
    · obtain ⟨v2, v3, rfl, e2, hq2⟩ := h
      rw [List.take_of_length_le (by unfold partsF; rw [List.length_cons, List.length_map, List.length_cons]; omega)] at hq2
      have hsum := sum_le hs.len
      have hf := hs.few
      walk_at "z"
      refine s_rJoin (wordsF f) (.inl (SqL.of hq2)) rfl ?_ ?_
      · have h1 : (wordsF f).length * 1921 ≤ 66 * 1921 := Nat.mul_le_mul_right _ hf
        rw [sp_len]
        omega
      · exact k _ e2

/-! pages read again -/
def NumOk (n : Int) : Prop := 0 ≤ n ∧ n < 10 ^ 30
theorem num_of {n : Int} (h : NumOk n) : ∃ m : Nat, n = (m : Nat) ∧ m < 10 ^ 30 := ⟨n.toNat, by have := h.1; omega, by have := h.1; have := h.2; omega⟩
theorem iTx_len30 {n : Int} (h : NumOk n) : (iTx n).length ≤ 30 := by
  obtain ⟨m, rfl, hm⟩ := num_of h
  show (Str.ofString (toString ((m : Nat) : Int))).length ≤ 30
  rw [TL.len_tl, TL.tl_num]
  exact TL.numL_len (by decide) hm
theorem iTx_read {n : Int} (h : NumOk n) : PySem.intText? (iTx n) = some n := by
  obtain ⟨m, rfl, hm⟩ := num_of h
  exact TL.int_num (Nat.le_trans (TL.numL_len (k := 30) (by decide) hm) (by decide))
theorem iTx_free {n : Int} (h : NumOk n) {c : Nat} (hc : c < 48 ∨ 57 < c) : c ∉ TL.tl (iTx n) := by
  obtain ⟨m, rfl, hm⟩ := num_of h
  show c ∉ TL.tl (Str.ofString (toString ((m : Nat) : Int)))
  rw [TL.tl_num]
  exact TL.numL_free hc
def argNs : Arg → List Int
  | .i n => [n]
  | .t l => l
def nsF (f : Fct) : List Int := (f.xs.map argNs).flatten
theorem words_ns (f : Fct) : wordsF f = f.w :: (nsF f).map iTx := by
  have e : argW = (fun x => (argNs x).map iTx) := funext fun x => by cases x <;> rfl
  unfold wordsF partsF nsF
  rw [List.flatten_cons, List.map_flatten, List.map_map, e]
  rfl
def ShapeR (f : Fct) : Prop := (∃ (ks : List Str) (ns : List Int) (k : Str), f.xs = ns.map Arg.i ∧ shapeOf f.w = some ks ∧ ks.length = ns.length ∧ ks.getLast? = some k ∧ k ≠ "gates") ∨ (∃ (a d : Int) (gs : List Int), f = ⟨"board", [.i a, .i d, .t gs]⟩)
/-- what a page can hold -/
structure ReadOk (f : Fct) : Prop where
  shp : ShapeR f
  nums : ∀ n ∈ nsF f, NumOk n
  word : f.w ∈ wordsOf
  free : ∀ c, c = 32 ∨ c = 10 → c ∉ TL.tl f.w
  sml : Sml f
theorem word_free {f : Fct} (g : GF f) {c : Nat} (hc : c = 32 ∨ c = 10) : c ∉ TL.tl f.w := by
  cases g <;> (rcases hc with rfl | rfl <;> (dsimp only; decide +kernel))
/-- numbers alone, or a board -/
theorem shape_gf {f : Fct} (g : GF f) : ShapeR f := by
  cases g with
  | @toll a1 a2 a3 h1 h2 h3 => exact .inl ⟨["gate", "day", "toll"], [a1, a2, a3], "toll", rfl, by dsimp only; decide +kernel, rfl, rfl, by decide +kernel⟩
  | @board a1 a2 gs h1 h2 h3 h4 => exact .inr ⟨a1, a2, gs, rfl⟩
  | @trust a1 a2 a3 h1 h2 h3 => exact .inl ⟨["gate", "day", "trust"], [a1, a2, a3], "trust", rfl, by dsimp only; decide +kernel, rfl, rfl, by decide +kernel⟩
  | @folk a1 a2 a3 h1 h2 h3 => exact .inl ⟨["carriage", "day", "day"], [a1, a2, a3], "day", rfl, by dsimp only; decide +kernel, rfl, rfl, by decide +kernel⟩
  | @bargain a1 a2 a3 a4 h1 h2 h3 h4 => exact .inl ⟨["gate", "carriage", "day", "day"], [a1, a2, a3, a4], "day", rfl, by dsimp only; decide +kernel, rfl, rfl, by decide +kernel⟩
  | @pass a1 a2 a3 a4 a5 h1 h2 h3 h4 h5 => exact .inl ⟨["day", "minute", "gate", "carriage", "horses"], [a1, a2, a3, a4, a5], "horses", rfl, by dsimp only; decide +kernel, rfl, rfl, by decide +kernel⟩
  | @lost n m h1 h2 => exact .inl ⟨["number", "minute"], [n, m], "minute", rfl, by dsimp only; decide +kernel, rfl, rfl, by decide +kernel⟩
  | @paid a1 a2 a3 h1 h2 h3 => exact .inl ⟨["carriage", "day", "payment"], [a1, a2, a3], "payment", rfl, by dsimp only; decide +kernel, rfl, rfl, by decide +kernel⟩
theorem read_gf {f : Fct} (b : Bent f) (hp : placeF f = none) : ReadOk f := by
  have g := place_gf b hp
  refine ⟨shape_gf g, ?_, b.word, fun c hc => word_free g hc, sml_gf b hp⟩
  cases g with
  | @toll a1 a2 a3 h1 h2 h3 =>
    show ∀ n ∈ [a1, a2, a3], NumOk n
    obtain ⟨⟨_, _⟩, ⟨_, _⟩, ⟨_, _⟩⟩ := And.intro h1 (And.intro h2 h3)
    simp only [List.forall_mem_cons, NumOk]
    exact ⟨⟨by omega, by omega⟩, ⟨by omega, by omega⟩, ⟨by omega, by omega⟩, fun _ h => by cases h⟩
  | @board a1 a2 gs h1 h2 h3 h4 =>
    show ∀ n ∈ a1 :: a2 :: (gs ++ []), NumOk n
    obtain ⟨⟨_, _⟩, ⟨_, _⟩⟩ := And.intro h1 h2
    rw [List.append_nil]
    simp only [List.forall_mem_cons]
    exact ⟨⟨by omega, by omega⟩, ⟨by omega, by omega⟩, fun n hn => ⟨(h4 n hn).1, by have := (h4 n hn).2; omega⟩⟩
  | @trust a1 a2 a3 h1 h2 h3 =>
    show ∀ n ∈ [a1, a2, a3], NumOk n
    obtain ⟨⟨_, _⟩, ⟨_, _⟩, ⟨_, _⟩⟩ := And.intro h1 (And.intro h2 h3)
    simp only [List.forall_mem_cons, NumOk]
    exact ⟨⟨by omega, by omega⟩, ⟨by omega, by omega⟩, ⟨by omega, by omega⟩, fun _ h => by cases h⟩
  | @folk a1 a2 a3 h1 h2 h3 =>
    show ∀ n ∈ [a1, a2, a3], NumOk n
    obtain ⟨⟨_, _⟩, ⟨_, _⟩, ⟨_, _⟩⟩ := And.intro h1 (And.intro h2 h3)
    simp only [List.forall_mem_cons, NumOk]
    exact ⟨⟨by omega, by omega⟩, ⟨by omega, by omega⟩, ⟨by omega, by omega⟩, fun _ h => by cases h⟩
  | @bargain a1 a2 a3 a4 h1 h2 h3 h4 =>
    show ∀ n ∈ [a1, a2, a3, a4], NumOk n
    obtain ⟨⟨_, _⟩, ⟨_, _⟩, ⟨_, _⟩, ⟨_, _⟩⟩ := And.intro h1 (And.intro h2 (And.intro h3 h4))
    simp only [List.forall_mem_cons, NumOk]
    exact ⟨⟨by omega, by omega⟩, ⟨by omega, by omega⟩, ⟨by omega, by omega⟩, ⟨by omega, by omega⟩, fun _ h => by cases h⟩
  | @pass a1 a2 a3 a4 a5 h1 h2 h3 h4 h5 =>
    show ∀ n ∈ [a1, a2, a3, a4, a5], NumOk n
    obtain ⟨⟨_, _⟩, ⟨_, _⟩, ⟨_, _⟩, ⟨_, _⟩, ⟨_, _⟩⟩ := And.intro h1 (And.intro h2 (And.intro h3 (And.intro h4 h5)))
    simp only [List.forall_mem_cons, NumOk]
    exact ⟨⟨by omega, by omega⟩, ⟨by omega, by omega⟩, ⟨by omega, by omega⟩, ⟨by omega, by omega⟩, ⟨by omega, by omega⟩, fun _ h => by cases h⟩
  | @lost n m h1 h2 =>
    show ∀ x ∈ [n, m], NumOk x
    obtain ⟨_, _⟩ := h2
    obtain ⟨_, _, _⟩ := b.suits ["number", "minute"] (by dsimp only; decide +kernel) rfl 0 _ (.i n) rfl rfl
    simp only [List.forall_mem_cons, NumOk]
    exact ⟨⟨by omega, by omega⟩, ⟨by omega, by omega⟩, fun _ h => by cases h⟩
  | @paid a1 a2 a3 h1 h2 h3 =>
    show ∀ n ∈ [a1, a2, a3], NumOk n
    obtain ⟨⟨_, _⟩, ⟨_, _⟩, ⟨_, _⟩⟩ := And.intro h1 (And.intro h2 h3)
    simp only [List.forall_mem_cons, NumOk]
    exact ⟨⟨by omega, by omega⟩, ⟨by omega, by omega⟩, ⟨by omega, by omega⟩, fun _ h => by cases h⟩
theorem flat_i (ns : List Int) : ((ns.map Arg.i).map argNs).flatten = ns := by
  induction ns with
  | nil => rfl
  | cons n ns ih =>
    show [n] ++ _ = _
    rw [ih]
    rfl
theorem fds_ints {H : Hp} : ∀ ns : List Int, FDs K H (ns.map V.int) (ns.map Arg.i)
  | [] => .nil
  | n :: ns => .cons (.i n) (fds_ints ns)
theorem sc_p_is_number_text : FnScope ["word"] ["word"] (defScope s_p_is_number_text) :=
  ⟨rfl, rfl, rfl, by decide +kernel, rfl, by decide +kernel, by decide +kernel⟩
theorem sc_p_read_numbers : FnScope ["words", "word"] ["words"] (defScope s_p_read_numbers) :=
  ⟨rfl, rfl, rfl, by decide +kernel, rfl, by decide +kernel, by decide +kernel⟩
theorem s_starRL {te : TE} {t : TA} {σ : L2.St} {H : Hp} {Q : List V → Hp → Prop} (k : te σ H fun x H1 => ∃ p xs, x = V.ref p ∧ (SqT K H1 p xs ∨ SqL K H1 p xs) ∧ t σ H1 fun ys H2 => Q (xs ++ ys) H2) : StX.tStar K te t σ H Q := k
theorem sc_p_read_fact : FnScope ["words", "kinds", "things", "singles"] ["words"] (defScope s_p_read_fact) :=
  ⟨rfl, rfl, rfl, by decide +kernel, rfl, by decide +kernel, by decide +kernel⟩
/-! rows and pages, read -/
def rowJ (n : Int) (f : Fct) : Str := Txt.join " " (iTx n :: wordsF f)
theorem rowT_J (p : Int × Fct) : rowT p = rowJ p.1 p.2 ++ "\n" := by
  unfold rowT rowJ textF
  rw [words_ns, TL.join_eq, TL.join_eq]
  rfl
def rowsJ : Nat → List Fct → List Str
  | _, [] => []
  | k, f :: fs => rowJ (k : Nat) f :: rowsJ (k + 1) fs
theorem pairs_all : ∀ (fs : List Fct) (k : Nat), (pairsS k (fs.map some)).map rowT = (rowsJ k fs).map (fun r : Str => r ++ Str.ofString "\n")
  | [], _ => rfl
  | f :: fs, k => by
    show rowT _ :: (pairsS (k + 1) (fs.map some)).map rowT = (rowJ (k : Nat) f ++ Str.ofString "\n") :: (rowsJ (k + 1) fs).map (fun r : Str => r ++ Str.ofString "\n")
    rw [pairs_all fs (k + 1), rowT_J]
theorem app_nil (a : Str) : a ++ Str.ofString "" = a := by
  show (⟨a.cps ++ (Str.ofString "").cps⟩ : Str) = a
  rw [show (Str.ofString "").cps = #[] from by decide +kernel, Array.append_empty]
theorem join_nl : ∀ rows : List Str, Str.join "" (rows.map (fun r : Str => r ++ Str.ofString "\n")) = Str.join "\n" (rows ++ [Str.ofString ""])
  | [] => by decide +kernel
  | [a] => by
    show a ++ Str.ofString "\n" = a ++ Str.ofString "\n" ++ Str.ofString ""
    rw [app_nil]
  | a :: b :: r => by
    have ih := join_nl (b :: r)
    show (a ++ Str.ofString "\n") ++ Str.ofString "" ++ Str.join "" ((b :: r).map (fun r : Str => r ++ Str.ofString "\n")) = a ++ Str.ofString "\n" ++ Str.join "\n" ((b :: r) ++ [Str.ofString ""])
    rw [ih, app_nil]
theorem rows_get : ∀ (fs : List Fct) (k i : Nat), (rowsJ k fs)[i]? = (fs[i]?).map (fun f => rowJ ((k + i : Nat) : Int) f)
  | [], _, _ => rfl
  | f :: fs, k, 0 => rfl
  | f :: fs, k, i + 1 => by
    show (rowsJ (k + 1) fs)[i]? = _
    rw [rows_get fs (k + 1) i, List.getElem?_cons_succ, show k + 1 + i = k + (i + 1) from by omega]
theorem rows_len : ∀ (fs : List Fct) (k : Nat), (rowsJ k fs).length = fs.length
  | [], _ => rfl
  | f :: fs, k => congrArg Nat.succ (rows_len fs (k + 1))
theorem num_small {k : Nat} (h : k ≤ 10000) : NumOk ((k : Nat) : Int) := ⟨by omega, by omega⟩
theorem sc_p_tell_row : FnScope ["roll", "at", "row", "number", "words", "fact"] ["roll", "at", "row"] (defScope s_p_tell_row) :=
  ⟨rfl, rfl, rfl, by decide +kernel, rfl, by decide +kernel, by decide +kernel⟩
theorem l_enum {g : TG} {ts : TS} {nx : L2.St → Hp → Prop} {rt : VK} {σ : L2.St} {H : Hp} {a : Addr} (xs : List V) (Pv : Nat → L2.St → Hp → Prop) (h0 : Pv 0 σ H) (hG : ∀ i σ H, i ≤ xs.length → Pv i σ H → SqL K H a xs)
    (hs : ∀ i x σ H t, xs[i]? = some x → Pv i σ H → H t = none → g (.ref t) σ (upd H t (.tup [.int (i : Nat), x])) fun σ2 H2 => ts ⟨Pv (i + 1), rt, nx, Pv (i + 1)⟩ σ2 H2) (hd : ∀ σ H, Pv xs.length σ H → nx σ H) :
    ∃ a' xs', [V.ref a] = [.ref a'] ∧ SqL K H a' xs' ∧ Loops (Ite K a') g ts nx rt σ H :=
  ⟨a, xs, rfl, hG 0 σ H (Nat.zero_le _) h0, loops_of walk_enum Pv h0 hG (fun i x σ H H' hi p y => by
    obtain ⟨t, u, v, rfl, nt, rfl, h1, h2⟩ := y
    cases h1
    exact hs i v σ H t h2 p nt) hd⟩
def prefs (fs : List Fct) (n : Nat) : List Stt := (List.range (n + 1)).map fun j => (fs.take j).map some
theorem prefs_last (fs : List Fct) (n : Nat) : (prefs fs n).getLast? = some ((fs.take n).map some) := by
  unfold prefs
  rw [List.range_succ, List.map_append]
  simp
theorem prefs_succ (fs : List Fct) (n : Nat) : prefs fs (n + 1) = prefs fs n ++ [(fs.take (n + 1)).map some] := by
  unfold prefs
  rw [List.range_succ, List.map_append]
  rfl
theorem prefs_len (fs : List Fct) (n : Nat) : (prefs fs n).length = n + 1 := by
  unfold prefs
  rw [List.length_map, List.length_range]
theorem all_stand {fs : List Fct} {n : Int} {g : Fct} (h : standF (fs.map some) n = some g) : g ∈ fs := by
  have := (stand_in h).2.2
  rw [List.getElem?_map] at this
  obtain ⟨x, hx, e⟩ := Option.map_eq_some_iff.mp this
  cases e
  exact List.mem_of_getElem? hx
theorem sc_p_read_page : FnScope ["text", "rows", "rest", "roll", "at", "row"] ["text"] (defScope s_p_read_page) :=
  ⟨rfl, rfl, rfl, by decide +kernel, rfl, by decide +kernel, by decide +kernel⟩

/-! texts that write numbers -/
theorem dval_snoc (m : List Nat) (c : Nat) : NumText.digitsVal (m ++ [c]) = NumText.digitsVal m * 10 + (c - 48) := by
  unfold NumText.digitsVal
  rw [List.foldl_append]
  rfl
theorem numL_back : ∀ (k : Nat) (l : List Nat), l.length = k → (∀ c ∈ l, 48 ≤ c ∧ c < 58) → l ≠ [] → (l = [48] ∨ l.head? ≠ some 48) → TL.numL (NumText.digitsVal l) = l
  | 0, l, hl, _, hn, _ => absurd (List.length_eq_zero_iff.mp hl) hn
  | k + 1, l, hl, hd, hn, hh => by
    rcases List.eq_nil_or_concat l with e | ⟨m, c, e⟩
    · exact absurd e hn
    rw [List.concat_eq_append] at e
    subst e
    rw [List.length_append, List.length_singleton] at hl
    obtain ⟨c1, c2⟩ := hd c (by simp)
    rw [dval_snoc]
    by_cases hm : m = []
    · subst hm
      show TL.numL (0 * 10 + (c - 48)) = [c]
      rw [TL.numL_lt (by omega)]
      exact congrArg (fun x => [x]) (by omega)
    · have hh' : m.head? ≠ some 48 := by
        rcases hh with e | e
        · exfalso
          have := congrArg List.length e
          rw [List.length_append, List.length_singleton, List.length_singleton] at this
          have := List.length_pos_iff.mpr hm
          omega
        · cases m with
          | nil => exact absurd rfl hm
          | cons x r => exact e
      have ih := numL_back k m (by omega) (fun x hx => hd x (List.mem_append_left _ hx)) hm (.inr hh')
      have pos : 0 < NumText.digitsVal m := by
        rcases Nat.eq_zero_or_pos (NumText.digitsVal m) with e | e
        · exfalso
          rw [e, TL.numL_lt (by decide)] at ih
          rw [← ih] at hh'
          exact hh' rfl
        · exact e
      rw [TL.numL_step (by omega), show (NumText.digitsVal m * 10 + (c - 48)) / 10 = NumText.digitsVal m from by omega, show 48 + (NumText.digitsVal m * 10 + (c - 48)) % 10 = c from by omega, ih]
theorem numL_big (n : Nat) : n < 10 ^ (TL.numL n).length := by
  induction n using Nat.strongRecOn with
  | _ n ih =>
    by_cases h : n < 10
    · rw [TL.numL_lt h]
      simpa using h
    · rw [TL.numL_step (by omega), List.length_append, List.length_singleton, Nat.pow_succ]
      have := ih (n / 10) (by omega)
      omega
/-- how a number is written -/
def NumW (z : Str) : Prop := ∃ n : Int, NumOk n ∧ z = iTx n
theorem numW_of {z : Str} (hl : z.length ≤ 30) (hd : ∀ c ∈ TL.tl z, 48 ≤ c ∧ c < 58) (hn : TL.tl z ≠ []) (hh : TL.tl z = [48] ∨ (TL.tl z).head? ≠ some 48) : NumW z := by
  have e := numL_back _ _ rfl hd hn hh
  refine ⟨((NumText.digitsVal (TL.tl z) : Nat) : Int), ⟨by omega, ?_⟩, ?_⟩
  · have h1 := numL_big (NumText.digitsVal (TL.tl z))
    rw [e, ← TL.len_tl] at h1
    have h2 : 10 ^ z.length ≤ 10 ^ 30 := Nat.pow_le_pow_right (by decide) hl
    have h3 : NumText.digitsVal (TL.tl z) < 10 ^ 30 := by omega
    exact_mod_cast h3
  · refine TL.ext_tl ?_
    show _ = TL.tl (Str.ofString (toString ((NumText.digitsVal (TL.tl z) : Nat) : Int)))
    rw [TL.tl_num, e]
theorem numW_tl {z : Str} (h : NumW z) : ∃ n : Nat, n < 10 ^ 30 ∧ TL.tl z = TL.numL n := by
  obtain ⟨n, hn, rfl⟩ := h
  obtain ⟨m, rfl, hm⟩ := num_of hn
  exact ⟨m, hm, TL.tl_num m⟩
theorem ascii_digit : ∀ c : Nat, c < 128 → Unicode.isDigit c = true → 48 ≤ c ∧ c < 58 := by decide +kernel
theorem starts_zero {z : Str} (h : (TL.tl z).head? = some 48) : Txt.startswith z "0" = true := by
  unfold Txt.startswith Builtin.Str.subAt
  have h0 : (Str.ofString "0").length = 1 := by decide +kernel
  have hz : 1 ≤ z.length := by
    rw [TL.len_tl]
    cases e : TL.tl z with
    | nil =>
      rw [e] at h
      cases h
    | cons c r => simp
  rw [Bool.and_eq_true]
  refine ⟨decide_eq_true (by rw [h0]; omega), beq_iff_eq.mpr ?_⟩
  refine Array.toList_inj.mp ?_
  rw [Array.toList_extract, List.extract_eq_take_drop, List.drop_zero, show (0 + (Str.ofString "0").length - 0) = 1 from by decide +kernel, show (Str.ofString "0").cps.toList = [48] from by decide +kernel]
  cases e : z.cps.toList with
  | nil =>
    rw [show TL.tl z = z.cps.toList from rfl, e] at h
    cases h
  | cons c r =>
    rw [show TL.tl z = z.cps.toList from rfl, e] at h
    cases h
    rfl
/-- what the program asks of a word -/
theorem numW_prog {z : Str} (h1 : Txt.isascii z = true) (h2 : Txt.isdigit z = true) (h3 : z.length ≤ 30) (h4 : z = "0" ∨ Txt.startswith z "0" = false) : NumW z := by
  unfold Txt.isdigit at h2
  rw [Bool.and_eq_true] at h2
  unfold Txt.isascii at h1
  rw [Array.all_eq_true_iff_forall_mem] at h1
  obtain ⟨p1, p2⟩ := h2
  rw [Array.all_eq_true_iff_forall_mem] at p2
  have hd : ∀ c ∈ TL.tl z, 48 ≤ c ∧ c < 58 := fun c hc => ascii_digit c (of_decide_eq_true (h1 c (Array.mem_toList_iff.mp hc))) (p2 c (Array.mem_toList_iff.mp hc))
  refine numW_of h3 hd (fun e => ?_) ?_
  · have := of_decide_eq_true p1
    rw [TL.len_tl, e] at this
    simp at this
  · rcases h4 with e | e
    · left
      rw [e]
      decide +kernel
    · right
      intro q
      rw [starts_zero q] at e
      cases e

/-! the eight words -/
def eightW : List Str := ["toll", "board", "trust", "folk", "bargain", "pass", "lost", "paid"]
theorem cut_fromA {xs : List V} {m : Int} (h0 : 0 ≤ m) : cutV xs (some m) none = xs.drop m.toNat := by
  by_cases h : m ≤ xs.length
  · exact cut_from h0 h
  · rw [List.drop_eq_nil_of_le (by omega)]
    unfold cutV HT.sIx
    dsimp only
    rw [if_neg (by omega), Nat.min_eq_right (by omega), Nat.sub_self, List.take_zero]

/-! any words: what is read of them -/
noncomputable def numB (z : Str) : Bool := @decide (NumW z) (Classical.propDecidable _)
theorem numB_t {z : Str} (h : NumW z) : numB z = true := @decide_eq_true _ (Classical.propDecidable _) h
theorem numB_f {z : Str} (h : ¬ NumW z) : numB z = false := @decide_eq_false _ (Classical.propDecidable _) h
theorem numB_iff {z : Str} : numB z = true ↔ NumW z := ⟨fun h => Classical.byContradiction fun n => (by rw [numB_f n] at h; cases h), numB_t⟩
theorem num_free {z : Str} (h : NumW z) : Txt.isascii z = true ∧ Txt.isdigit z = true ∧ z.length ≤ 30 ∧ (z = "0" ∨ Txt.startswith z "0" = false) := by
  obtain ⟨n, hn, rfl⟩ := h
  have hl := iTx_len30 hn
  obtain ⟨m, rfl, hm⟩ := num_of hn
  refine ⟨num_ascii m, num_digit m, hl, ?_⟩
  by_cases h0 : m = 0
  · left
    rw [h0]
    decide +kernel
  · exact .inr (num_starts h0)
theorem nums_of : ∀ {ys : List Str}, (∀ y ∈ ys, NumW y) → ∃ ns : List Int, ys = ns.map iTx ∧ ∀ n ∈ ns, NumOk n
  | [], _ => ⟨[], rfl, fun _ h => by cases h⟩
  | y :: ys, h => by
    obtain ⟨n, hn, e⟩ := h y List.mem_cons_self
    obtain ⟨ns, e2, h2⟩ := nums_of fun z hz => h z (List.mem_cons_of_mem _ hz)
    refine ⟨n :: ns, by rw [List.map_cons, e, e2], fun m hm => ?_⟩
    rcases List.mem_cons.mp hm with rfl | hm
    · exact hn
    · exact h2 m hm
def spNumTG : Sp := fun vs H Q _ => ∃ z : Str, vs = [.str z] ∧ z.length ≤ 90000 ∧ Q (.bl (numB z)) H
theorem okG_p_is_number_text (T : Tx P K mg w) : FnOk P w K mg base CX0 1 T.f_p_is_number_text T.d_p_is_number_text ["word"] spNumTG := by
  refine T.F_p_is_number_text.ok sc_p_is_number_text (fun vs H Q E h => ?_) (fun cdv A outer s H vs Q E hr h => ?_)
  · obtain ⟨z, rfl, _⟩ := h
    rfl
  · obtain ⟨z, rfl, hz, k⟩ := h
    refine ⟨_, (pss_cons (ps_if (PW.pt (pw_or (pt_not (pt_val (pe_m0 PySem.F.slot_str_isascii PySem.F.type_str_isascii mz_isascii (pv 0)))) (pw_or (pt_not (pt_val (pe_m0 PySem.F.slot_str_isdigit PySem.F.type_str_isdigit mz_isdigit (pv 0)))) (pw_or1 (pt_cmpR op_gt (pe_callB cz_lenStr (by rfl) T.z_len PySem.boot_len (pa_cons (pv 0) pa_nil)) (pe_glob (v := .int 30) rfl T.k_MOST_FIGURES ⟨_, rfl⟩) (nomark _)))))) (pss_one (ps_ret pe_bl)) pss_nil) (pss_one (ps_ret (pe_or (pe_cmpR op_eq (pv 0) pe_str (nomark _)) (pe_one (pe_not (pe_m1 PySem.F.slot_str_startswith PySem.F.type_str_startswith mz_startswith (pv 0) pe_str))))))), ?_⟩
    refine at_start (ρ' := [some _]) rfl ?_
    have no : ¬ NumW z → numB z = false := numB_f
    walk_at "z0"
    walk_at "z"
    refine s_boolS ?_
    cases ha : Txt.isascii z with
    | false =>
      rw [no fun h => by rw [(num_free h).1] at ha; cases ha] at k
      walk_at "z"
      exact k
    | true =>
      walk_at "z"
      refine s_boolS ?_
      cases hd : Txt.isdigit z with
      | false =>
        rw [no fun h => by rw [(num_free h).2.1] at hd; cases hd] at k
        walk_at "z"
        exact k
      | true =>
        walk_at "z"
        refine s_rLenStr (sz (by omega)) ?_
        walk_at "z"
        refine ite_dec (fun h3 => ?_) (fun h3 => ?_)
        · rw [no fun h => by have := (num_free h).2.2.1; omega] at k
          walk_at "z"
          exact k
        · walk_at "z"
          refine ite_dec (fun h8 => ?_) (fun h8 => ?_)
          · rw [numB_t (numW_prog ha hd (by omega) (.inl h8))] at k
            exact k
          · walk_at "z"
            refine s_startsS ?_
            cases hs : Txt.startswith z "0" with
            | false =>
              rw [numB_t (numW_prog ha hd (by omega) (.inr hs))] at k
              walk_at "z"
              exact k
            | true =>
              rw [no fun h => by
                rcases (num_free h).2.2.2 with e | e
                · exact h8 e
                · rw [hs] at e
                  cases e] at k
              walk_at "z"
              exact k
def spNumsG (K : PySem.W.Frag) : Sp := fun vs H Q _ => ∃ (L : Addr) (ys : List Str), vs = [.ref L] ∧ SqL K H L (ys.map V.str) ∧ (∀ y ∈ ys, y.length ≤ 90000) ∧ ys.length ≤ 100 ∧
  (∀ (ns : List Int) p H', ys = ns.map iTx → (∀ n ∈ ns, NumOk n) → H p = none → Ex H H' → H' p = some (.lst (ns.map V.int)) → Q (.ref p) H') ∧ ((∃ y ∈ ys, ¬ NumW y) → ∀ H', Ex H H' → Q .non H')
theorem okG_p_read_numbers (T : Tx P K mg w) : FnOk P w K mg base CX0 2 T.f_p_read_numbers T.d_p_read_numbers ["words"] (spNumsG K) := by
  refine T.F_p_read_numbers.ok sc_p_read_numbers (fun vs H Q E h => ?_) (fun cdv A outer s H vs Q E hr h => ?_)
  · obtain ⟨L, ys, rfl, _⟩ := h
    rfl
  · obtain ⟨L, ys, rfl, hL, hys, hz, k1, k2⟩ := h
    have get : ∀ {i : Nat} {x : V}, (ys.map V.str)[i]? = some x → ∃ y, ys[i]? = some y ∧ x = .str y := fun {i x} h => by
      rw [List.getElem?_map] at h
      obtain ⟨z, hz, rfl⟩ := Option.map_eq_some_iff.mp h
      exact ⟨z, hz, rfl⟩
    refine ⟨_, (pss_cons (ps_if (pt_not (pt_val (pe_callB (r := rAll K) (cr_all rfl) (by rfl) T.z_all (by decide +kernel) (pa_cons (pe_lc (own := [("word", 1)]) (by rfl) sc_p_read_numbers.nd (pi_list (pv 0)) (blkOk_by (own := [("word", 1)]) (N := ["words", "word"]) (sc := defScope s_p_read_numbers) (by decide +kernel)) (fun _ _ _ _ _ => (pg_name (i := 1) sc_p_read_numbers.nd rfl (Or.inl rfl))) (fun _ _ _ _ _ => pts_nil) (fun _ _ _ _ _ => (pe_call (okG_p_is_number_text T) (hr.mono (by decide)) rfl T.g_p_is_number_text T.F_p_is_number_text.kp T.b_p_is_number_text .nil pass0 (pa_cons (pv 1) pa_nil)))) pa_nil)))) (pss_one (ps_ret pe_non)) pss_nil) (pss_one (ps_ret (pe_lc (own := [("word", 1)]) (by rfl) sc_p_read_numbers.nd (pi_list (pv 0)) (blkOk_by (own := [("word", 1)]) (N := ["words", "word"]) (sc := defScope s_p_read_numbers) (by decide +kernel)) (fun _ _ _ _ _ => (pg_name (i := 1) sc_p_read_numbers.nd rfl (Or.inl rfl))) (fun _ _ _ _ _ => pts_nil) (fun _ _ _ _ _ => (pe_callTy cz_intS (by rfl) T.z_int (by decide +kernel) (pa_cons (pv 1) pa_nil))))))), ?_⟩
    refine at_start (ρ' := [some _, none]) rfl ?_
    walk_at "z0"
    walk_at "z"
    refine c_list (ys.map V.str) hL (fun D H' => H D = none ∧ Ex H H') (fun D i acc H' => acc = ((ys.take i).map numB).map V.bl) (fun D H' n e _ => ⟨⟨n, e⟩, rfl⟩) (fun D H' Iv => Iv.2.sqL hL) (fun D i acc H1 x hx Iv hD hn r => ?_) (fun D acc H1 Iv hD hn r => ?_)
    · obtain ⟨nD, e1⟩ := Iv
      obtain ⟨y, hyi, rfl⟩ := get hx
      have hi : i < ys.length := (List.getElem?_eq_some_iff.mp hyi).1
      walk_at "z"
      refine ⟨rfl, ?_⟩
      walk_at "z"
      refine ⟨y, rfl, hys y (List.mem_of_getElem? hyi), ?_⟩
      refine c_put hD ⟨hn, by omega⟩ fun H2 f2 _ => ⟨⟨nD, e1.fr2 nD f2⟩, ?_⟩
      rw [r, List.take_succ, hyi, List.map_append, List.map_append]
      rfl
    · obtain ⟨nD, e1⟩ := Iv
      rw [List.length_map, List.take_length] at r
      subst r
      walk_at "z"
      refine s_rAll (ys.map numB) (SqL.of hD) rfl ?_
      cases hall : (ys.map numB).all id with
      | false =>
        walk_at "z"
        refine k2 ?_ H1 e1
        rw [List.all_eq_false] at hall
        obtain ⟨b, hb, h2⟩ := hall
        obtain ⟨y, hy, rfl⟩ := List.mem_map.mp hb
        exact ⟨y, hy, fun h => h2 (numB_t h)⟩
      | true =>
        have hall2 : ∀ y ∈ ys, NumW y := fun y hy => numB_iff.mp (List.all_eq_true.mp hall _ (List.mem_map.mpr ⟨y, hy, rfl⟩))
        obtain ⟨ns, rfl, hns⟩ := nums_of hall2
        rw [List.length_map] at hz
        have get2 : ∀ {i : Nat} {x : V}, ((ns.map iTx).map V.str)[i]? = some x → ∃ n, ns[i]? = some n ∧ x = .str (iTx n) := fun {i x} h => by
          rw [List.getElem?_map, List.getElem?_map] at h
          obtain ⟨z, hz, rfl⟩ := Option.map_eq_some_iff.mp h
          obtain ⟨n, hn, rfl⟩ := Option.map_eq_some_iff.mp hz
          exact ⟨n, hn, rfl⟩
        walk_at "z"
        have hL1 := e1.sqL hL
        refine c_list ((ns.map iTx).map V.str) hL1 (fun D H' => H1 D = none ∧ Ex H1 H') (fun D i acc H' => acc = (ns.take i).map V.int) (fun D H' n e _ => ⟨⟨n, e⟩, rfl⟩) (fun D H' Iv => Iv.2.sqL hL1) (fun D i acc H2 x hx Iv hD hn r => ?_) (fun D acc H2 Iv hD hn r => ?_)
        · obtain ⟨nD, e2⟩ := Iv
          obtain ⟨n, hni, rfl⟩ := get2 hx
          have hi : i < ns.length := (List.getElem?_eq_some_iff.mp hni).1
          have hok := hns n (List.mem_of_getElem? hni)
          walk_at "z"
          refine ⟨rfl, ?_⟩
          walk_at "z"
          refine s_intS (iTx_read hok) (by have := iTx_len30 hok; omega) ?_
          refine c_put hD ⟨hn, by omega⟩ fun H3 f3 _ => ⟨⟨nD, e2.fr2 nD f3⟩, ?_⟩
          rw [r, List.take_succ, hni, List.map_append]
          rfl
        · obtain ⟨nD, e2⟩ := Iv
          rw [List.length_map, List.length_map, List.take_length] at r
          subst r
          exact k1 ns D H2 rfl hns (Ex.back e1 nD) (e1.trans e2) hD
/-- words of a fact -/
def FactL (ys : List Str) : Prop := ∃ f, ys = wordsF f ∧ ReadOk f
theorem shape_eight {z : Str} {ks : List Str} (h : shapeOf z = some ks) : z ∈ eightW ∧ ((z = "board" ∧ ks = (["gate", "day", "gates"] : List Str)) ∨ (z ≠ "board" ∧ ∃ kk, ks.getLast? = some kk ∧ kk ≠ "gates")) := by
  unfold shapeOf at h
  have g : ∀ {k : Str}, k = "toll" ∨ k = "trust" ∨ k = "day" ∨ k = "horses" ∨ k = "minute" ∨ k = "payment" → k ≠ "gates" := fun h => by
    rcases h with rfl | rfl | rfl | rfl | rfl | rfl <;> decide +kernel
  have m : ∀ {w : Str}, w = "toll" ∨ w = "board" ∨ w = "trust" ∨ w = "folk" ∨ w = "bargain" ∨ w = "pass" ∨ w = "lost" ∨ w = "paid" → w ∈ eightW := fun h => by
    simp only [eightW, List.mem_cons, List.not_mem_nil, or_false]
    exact h
  split at h
  · rename_i e
    cases h
    exact ⟨m (.inl e), .inr ⟨by rw [e]; decide +kernel, "toll", rfl, g (.inl rfl)⟩⟩
  split at h
  · rename_i e
    cases h
    exact ⟨m (.inr (.inl e)), .inl ⟨e, rfl⟩⟩
  split at h
  · rename_i e
    cases h
    exact ⟨m (.inr (.inr (.inl e))), .inr ⟨by rw [e]; decide +kernel, "trust", rfl, g (.inr (.inl rfl))⟩⟩
  split at h
  · rename_i e
    cases h
    exact ⟨m (.inr (.inr (.inr (.inl e)))), .inr ⟨by rw [e]; decide +kernel, "day", rfl, g (.inr (.inr (.inl rfl)))⟩⟩
  split at h
  · rename_i e
    cases h
    exact ⟨m (.inr (.inr (.inr (.inr (.inl e))))), .inr ⟨by rw [e]; decide +kernel, "day", rfl, g (.inr (.inr (.inl rfl)))⟩⟩
  split at h
  · rename_i e
    cases h
    exact ⟨m (.inr (.inr (.inr (.inr (.inr (.inl e)))))), .inr ⟨by rw [e]; decide +kernel, "horses", rfl, g (.inr (.inr (.inr (.inl rfl))))⟩⟩
  split at h
  · rename_i e
    cases h
    exact ⟨m (.inr (.inr (.inr (.inr (.inr (.inr (.inl e))))))), .inr ⟨by rw [e]; decide +kernel, "minute", rfl, g (.inr (.inr (.inr (.inr (.inl rfl)))))⟩⟩
  split at h
  · rename_i e
    cases h
    exact ⟨m (.inr (.inr (.inr (.inr (.inr (.inr (.inr e))))))), .inr ⟨by rw [e]; decide +kernel, "payment", rfl, g (.inr (.inr (.inr (.inr (.inr rfl)))))⟩⟩
  · cases h
theorem eight_of {z : Str} (h : z ∈ eightW) : z ∈ wordsOf ∧ ∃ ks, shapeOf z = some ks := by
  simp only [eightW, List.mem_cons, List.not_mem_nil, or_false] at h
  rcases h with rfl | rfl | rfl | rfl | rfl | rfl | rfl | rfl
  · exact ⟨by simp [wordsOf], Option.isSome_iff_exists.mp (by decide +kernel)⟩
  · exact ⟨by simp [wordsOf], Option.isSome_iff_exists.mp (by decide +kernel)⟩
  · exact ⟨by simp [wordsOf], Option.isSome_iff_exists.mp (by decide +kernel)⟩
  · exact ⟨by simp [wordsOf], Option.isSome_iff_exists.mp (by decide +kernel)⟩
  · exact ⟨by simp [wordsOf], Option.isSome_iff_exists.mp (by decide +kernel)⟩
  · exact ⟨by simp [wordsOf], Option.isSome_iff_exists.mp (by decide +kernel)⟩
  · exact ⟨by simp [wordsOf], Option.isSome_iff_exists.mp (by decide +kernel)⟩
  · exact ⟨by simp [wordsOf], Option.isSome_iff_exists.mp (by decide +kernel)⟩
theorem word_eight {z : Str} (h : z ∈ eightW) : (∀ c, c = 32 ∨ c = 10 → c ∉ TL.tl z) ∧ z.length ≤ 7 := by
  simp only [eightW, List.mem_cons, List.not_mem_nil, or_false] at h
  rcases h with rfl | rfl | rfl | rfl | rfl | rfl | rfl | rfl <;> exact ⟨fun c hc => by rcases hc with rfl | rfl <;> decide +kernel, by decide +kernel⟩
theorem iTx_inj {n m : Int} (hn : NumOk n) (hm : NumOk m) (h : iTx n = iTx m) : n = m := by
  obtain ⟨a, rfl, _⟩ := num_of hn
  obtain ⟨b, rfl, _⟩ := num_of hm
  have e : TL.numL a = TL.numL b := by
    rw [← TL.tl_num, ← TL.tl_num]
    exact congrArg TL.tl h
  rw [TL.numL_inj e]
theorem iTx_injL : ∀ {ns ms : List Int}, (∀ n ∈ ns, NumOk n) → (∀ m ∈ ms, NumOk m) → ns.map iTx = ms.map iTx → ns = ms
  | [], [], _, _, _ => rfl
  | [], _ :: _, _, _, h => by cases h
  | _ :: _, [], _, _, h => by cases h
  | n :: ns, m :: ms, h1, h2, h => by
    rw [List.map_cons, List.map_cons] at h
    obtain ⟨e1, e2⟩ := List.cons.inj h
    rw [iTx_inj (h1 n List.mem_cons_self) (h2 m List.mem_cons_self) e1, iTx_injL (fun x hx => h1 x (List.mem_cons_of_mem _ hx)) (fun x hx => h2 x (List.mem_cons_of_mem _ hx)) e2]
/-- the first word of a fact's words, and the numbers behind it -/
theorem factL_cons {w : Str} {rest : List Str} (h : FactL (w :: rest)) : w ∈ eightW ∧ ∃ ns : List Int, rest = ns.map iTx ∧ (∀ n ∈ ns, NumOk n) ∧ ((∃ ks, shapeOf w = some ks ∧ ks.length = ns.length ∧ w ≠ "board") ∨ (w = "board" ∧ 2 ≤ ns.length)) := by
  obtain ⟨f, e, ok⟩ := h
  rw [words_ns] at e
  obtain ⟨rfl, e2⟩ := List.cons.inj e
  rcases ok.shp with ⟨ks, ns, k, hx, hs, hl, hk, hg⟩ | ⟨a, d, gs, rfl⟩
  · have hns : nsF f = ns := by
      unfold nsF
      rw [hx, flat_i]
    obtain ⟨h8, hb⟩ := shape_eight hs
    refine ⟨h8, nsF f, e2, ok.nums, .inl ⟨ks, hs, by rw [hns, hl], ?_⟩⟩
    rcases hb with ⟨_, rfl⟩ | ⟨hb, _⟩
    · cases hk
      exact absurd rfl hg
    · exact hb
  · refine ⟨by simp [eightW], _, e2, ok.nums, .inr ⟨rfl, ?_⟩⟩
    show 2 ≤ (a :: d :: (gs ++ [])).length
    simp
theorem num_okA {n : Int} (h : NumOk n) : -(2 ^ 200) ≤ n ∧ n ≤ 2 ^ 200 := ⟨by have := h.1; omega, by have := h.2; omega⟩
theorem factL_flat {w : Str} {ks : List Str} {ns : List Int} (hs : shapeOf w = some ks) (hb : w ≠ "board") (hl : ks.length = ns.length) (hn : ∀ n ∈ ns, NumOk n) (h5 : ns.length ≤ 60) : ReadOk ⟨w, ns.map Arg.i⟩ := by
  obtain ⟨h8, hb2⟩ := shape_eight hs
  obtain ⟨hf, hw⟩ := word_eight h8
  rcases hb2 with ⟨e, _⟩ | ⟨_, kk, h1, h2⟩
  · exact absurd e hb
  refine ⟨.inl ⟨ks, ns, kk, rfl, hs, hl, h1, h2⟩, fun n hm => hn n ?_, (eight_of h8).1, hf, sml_of (by show w.length ≤ 1921; omega) (fun x hx => ?_) ?_⟩
  · have e : nsF ⟨w, ns.map Arg.i⟩ = ns := flat_i ns
    rwa [e] at hm
  · obtain ⟨n, hm, rfl⟩ := List.mem_map.mp hx
    exact num_okA (hn n hm)
  · rw [words_ns, List.length_cons, List.length_map]
    have e : nsF ⟨w, ns.map Arg.i⟩ = ns := flat_i ns
    rw [e]
    omega
theorem factL_board {a d : Int} {gs : List Int} (hn : ∀ n ∈ a :: d :: gs, NumOk n) (h5 : gs.length ≤ 58) : ReadOk ⟨"board", [.i a, .i d, .t gs]⟩ := by
  have h8 : ("board" : Str) ∈ eightW := by simp [eightW]
  obtain ⟨hf, hw⟩ := word_eight h8
  refine ⟨.inr ⟨a, d, gs, rfl⟩, fun n hm => hn n ?_, (eight_of h8).1, hf, sml_of (by show ("board" : Str).length ≤ 1921; omega) (fun x hx => ?_) ?_⟩
  · replace hm : n ∈ a :: d :: (gs ++ []) := hm
    rwa [List.append_nil] at hm
  · simp only [List.mem_cons, List.not_mem_nil, or_false] at hx
    rcases hx with rfl | rfl | rfl
    · exact num_okA (hn _ (by simp))
    · exact num_okA (hn _ (by simp))
    · exact ⟨by omega, fun n hm => num_okA (hn n (by simp [hm]))⟩
  · rw [words_ns, List.length_cons, List.length_map]
    show (a :: d :: (gs ++ [])).length + 1 ≤ 66
    rw [List.append_nil, List.length_cons, List.length_cons]
    omega

/-! any words, read -/
theorem cut_toA {xs : List V} {m : Int} (h0 : 0 ≤ m) : cutV xs none (some m) = xs.take m.toNat := by
  by_cases h : m ≤ xs.length
  · exact cut_to h0 h
  · rw [List.take_of_length_le (by omega)]
    unfold cutV HT.sIx
    dsimp only
    rw [if_neg (by omega), List.drop_zero, Nat.sub_zero, Nat.min_eq_right (by omega), List.take_length]
def spFactG (K : PySem.W.Frag) : Sp := fun vs H Q _ => ∃ (L : Addr) (ys : List Str), vs = [.ref L] ∧ SqL K H L (ys.map V.str) ∧ (∀ y ∈ ys, y.length ≤ 90000) ∧ ys.length ≤ 60 ∧
  (∀ f v H', ys = wordsF f → ReadOk f → Ex H H' → RF K H' v f → Q v H') ∧ (¬ FactL ys → ∀ H', Ex H H' → Q .non H')
theorem okG_p_read_fact (T : Tx P K mg w) : FnOk P w K mg base CX0 3 T.f_p_read_fact T.d_p_read_fact ["words"] (spFactG K) := by
  refine T.F_p_read_fact.ok sc_p_read_fact (fun vs H Q E h => ?_) (fun cdv A outer s H vs Q E hr h => ?_)
  · obtain ⟨L, ys, rfl, _⟩ := h
    rfl
  · obtain ⟨L, ys, rfl, hL, hys, hfew, k1, k2⟩ := h
    have low : (T.B_SHAPES == sysModules) = false := T.dic_SHAPES.choose_spec.choose_spec.2.2
    refine ⟨_, (pss_cons (ps_if (PW.pt (pw_or (pt_not (pt_truth (pv 0) (by intro _; rfl))) (pw_or1 (pt_cmpR op_notInK (pe_ix (r := rIxL K) ix_list (pv 0) pe_int (fun _ _ => rfl)) (pe_glob (v := .ref T.B_SHAPES) rfl T.g_SHAPES rfl) (by rfl))))) (pss_one (ps_ret pe_non)) pss_nil) (pss_cons (ps_set (i := 1) sc_p_read_fact.nd rfl (Or.inl rfl) (pe_ix (r := rIxD K w) ix_kdict (pe_glob (v := .ref T.B_SHAPES) rfl T.g_SHAPES rfl) (pe_ix (r := rIxL K) ix_list (pv 0) pe_int (fun _ _ => rfl)) (fun _ _ => rfl))) (pss_cons (ps_set (i := 2) sc_p_read_fact.nd rfl (Or.inl rfl) (pe_call (okG_p_read_numbers T) (hr.mono (by decide)) rfl T.g_p_read_numbers T.F_p_read_numbers.kp T.b_p_read_numbers .nil pass0 (pa_cons (pe_slice (r := rSlL K) sl_list (pv 0) (po_some pe_int) po_none) pa_nil))) (pss_cons (ps_if (pt_cmpR op_isN1 (pv 2) pe_non (nomark _)) (pss_one (ps_ret pe_non)) pss_nil) (pss_cons (ps_if (pt_cmpR op_eq (pe_ix (r := rIxT K) ix_tup (pv 1) (pe_un un_neg pe_int) (fun _ _ => rfl)) pe_str (nomark _)) (pss_cons (ps_set (i := 3) sc_p_read_fact.nd rfl (Or.inl rfl) (pe_op op_sub (pe_callB (r := Z.rLen K) cz_len (by rfl) T.z_len PySem.boot_len (pa_cons (pv 1) pa_nil)) pe_int)) (pss_one (ps_set (i := 2) sc_p_read_fact.nd rfl (Or.inl rfl) (pe_lst (StX.pa_star (pe_slice (r := rSlL K) sl_list (pv 2) po_none (po_some (pv 3))) (pa_cons (pe_callTy (r := rTupleOf K) cz_tupleOf (by rfl) T.z_tuple (by decide +kernel) (pa_cons (pe_slice (r := rSlL K) sl_list (pv 2) (po_some (pv 3)) po_none) pa_nil)) pa_nil)))))) pss_nil) (pss_one (ps_ret (pe_ifExp (pt_cmpR op_eq (pe_callB (r := Z.rLen K) cz_len (by rfl) T.z_len PySem.boot_len (pa_cons (pv 2) pa_nil)) (pe_callB (r := Z.rLen K) cz_len (by rfl) T.z_len PySem.boot_len (pa_cons (pv 1) pa_nil)) (nomark _)) (pe_tup (pa_cons (pe_ix (r := rIxL K) ix_list (pv 0) pe_int (fun _ _ => rfl)) (StX.pa_star (pv 2) pa_nil))) pe_non)))))))), ?_⟩
    refine at_start (ρ' := [some _, none, none, none]) rfl ?_
    walk_at "z0"
    walk_at "z"
    cases ys with
    | nil =>
      refine ⟨false, .inl ⟨_, hL, rfl⟩, ?_⟩
      walk_at "z"
      refine k2 (fun ⟨f, e, _⟩ => ?_) H Ex.refl
      rw [words_ns] at e
      cases e
    | cons wd rest =>
      rw [List.map_cons] at hL
      rw [List.length_cons] at hfew
      refine ⟨true, .inl ⟨_, hL, rfl⟩, ?_⟩
      walk_at "z"
      refine s_ixL hL (at0 _ _) ?_
      walk_at "z"
      by_cases h8 : wd ∈ eightW
      case neg =>
        refine ⟨wd, T.B_SHAPES, rfl, rfl, .inr ⟨T.ka_SHAPES wd h8, ?_⟩⟩
        walk_at "z"
        exact k2 (fun h => h8 (factL_cons h).1) H Ex.refl
      obtain ⟨ks, t, hsh, hkl, kd, kt⟩ : ∃ ks t, shapeOf wd = some ks ∧ ks.length ≤ 5 ∧ KDct K w T.B_SHAPES wd (.ref t) ∧ ∀ {H : Hp}, SqT K H t (ks.map V.str) := by
        rcases T_shape T (eight_of h8).1 with h | h
        · obtain ⟨ks, t, a, b, c, d⟩ := h
          exact ⟨ks, t, a, b, c, d⟩
        · obtain ⟨_, ks, e⟩ := eight_of h8
          rw [e] at h
          cases h.1
      refine ⟨wd, T.B_SHAPES, rfl, rfl, .inl ⟨_, kd, low, ?_⟩⟩
      walk_at "z"
      refine s_ixL hL (at0 _ _) ?_
      refine ⟨_, _, _, rfl, rfl, kd, ?_⟩
      walk_at "z"
      rename_i q H1 nq e1 hq
      rw [cut_from (by decide) (by rw [List.length_cons]; omega)] at hq
      replace hq : H1 q = some (.lst (rest.map V.str)) := hq
      refine ⟨q, rest, rfl, SqL.of hq, fun y hy => hys y (List.mem_cons_of_mem _ hy), by omega, fun ns p H2 hrest hns np e2 hp => ?_, fun hno H2 e2 => ?_⟩
      rotate_left
      · walk_at "z"
        refine k2 (fun h => ?_) H2 (e1.trans e2)
        obtain ⟨_, ns, e, hn, _⟩ := factL_cons h
        obtain ⟨y, hy, hy2⟩ := hno
        rw [e] at hy
        obtain ⟨n, hm, rfl⟩ := List.mem_map.mp hy
        exact hy2 ⟨n, hn n hm, rfl⟩
      have e12 := e1.trans e2
      have hL2 := e12.sqL hL
      have hkt := kt (H := H2)
      subst hrest
      rw [List.length_map] at hfew
      have inj : ∀ {ms : List Int}, ns.map iTx = ms.map iTx → (∀ n ∈ ms, NumOk n) → ns = ms := fun e h => iTx_injL hns h e
      obtain ⟨_, hb⟩ := shape_eight hsh
      walk_at "z"
      rcases hb with ⟨hbw, rfl⟩ | ⟨hbw, kk, hlast, hng⟩
      rotate_left
      · have hla : (ks.map V.str).getLast? = some (.str kk) := by rw [List.getLast?_map, hlast]; rfl
        refine s_ixT hkt (last_at hla) ?_
        walk_at "z"
        refine ite_neg hng ?_
        walk_at "z"
        refine ite_dec (fun hlen => ?_) (fun hlen => ?_)
        · rw [List.length_map, List.length_map] at hlen
          walk_at "z"
          refine s_ixL hL2 (at0 _ _) ?_
          refine s_starRL ?_
          walk_at "z"
          refine ⟨p, _, rfl, .inr (SqL.of hp), ?_⟩
          walk_at "z1"
          rw [List.append_nil]
          refine s_newS (sz (by rw [List.length_cons, List.length_map]; omega)) fun v H3 nv e3 hv => ?_
          refine k1 ⟨wd, ns.map Arg.i⟩ (.ref v) H3 ?_ (factL_flat hsh hbw (by omega) hns (by omega)) (e12.trans e3) ⟨v, _, rfl, SqT.of hv, fds_ints ns⟩
          rw [words_ns, show nsF ⟨wd, ns.map Arg.i⟩ = ns from flat_i ns]
        · walk_at "z"
          refine k2 (fun h => ?_) H2 e12
          obtain ⟨_, ms, e, hm, hc⟩ := factL_cons h
          have := inj e hm
          subst this
          rcases hc with ⟨ks', e1, e2, _⟩ | ⟨e1, _⟩
          · rw [hsh] at e1
            cases e1
            exact hlen (by rw [List.length_map, List.length_map, e2])
          · exact hbw e1
      · subst hbw
        refine s_ixT hkt (last_at rfl) ?_
        walk_at "z"
        refine s_starRL ?_
        walk_at "z"
        rename_i q1 H3 nq1 e3 hq1
        replace hq1 : H3 q1 = some (.lst (cutV (ns.map V.int) none (some 2))) := hq1
        rw [cut_toA (by decide)] at hq1
        refine ⟨q1, _, rfl, .inr (SqL.of hq1), ?_⟩
        have hp3 := e3 _ _ hp
        have few2 : ns.length < 2 → ¬ FactL ("board" :: ns.map iTx) := fun hl h => by
          obtain ⟨_, ms, e, hm, hc⟩ := factL_cons h
          have := inj e hm
          subst this
          rcases hc with ⟨_, _, _, e2⟩ | ⟨_, e2⟩
          · exact e2 rfl
          · omega
        match ns, hns, hp, hp3, hq1, few2, hfew with
        | [], _, hp, hp3, hq1, few2, _ =>
          replace hq1 : H3 q1 = some (.lst []) := hq1
          walk_at "z"
          rename_i qa H4 nqa e4 hqa q2 H5 nq2 e5 hq2 q3 H6 nq3 e6 hq3
          exact k2 (few2 (by simp)) _ (e12.trans (((e3.trans e4).trans e5).trans e6))
        | [a], _, hp, hp3, hq1, few2, _ =>
          replace hq1 : H3 q1 = some (.lst [.int a]) := hq1
          walk_at "z"
          rename_i qa H4 nqa e4 hqa q2 H5 nq2 e5 hq2 q3 H6 nq3 e6 hq3
          exact k2 (few2 (by simp)) _ (e12.trans (((e3.trans e4).trans e5).trans e6))
        | a :: d :: gs, hns, hp, hp3, hq1, _, hfew =>
          rw [List.length_cons, List.length_cons] at hfew
          replace hq1 : H3 q1 = some (.lst [.int a, .int d]) := hq1
          rw [show List.take (Int.toNat 2) (List.map V.int (a :: d :: gs)) = [.int a, .int d] from rfl]
          walk_at "z"
          rename_i qa H4 nqa e4 hqa q2 H5 nq2 e5 hq2 q3 H6 nq3 e6 hq3
          have e26 := ((e3.trans e4).trans e5).trans e6
          refine s_ixL (e26.sqL hL2) (at0 _ _) ?_
          refine s_starRL ?_
          walk_at "z"
          refine ⟨q3, _, rfl, .inr (SqL.of hq3), ?_⟩
          walk_at "z"
          rename_i v H7 nv e7 hv
          replace hq2 : H5 q2 = some (.tup (cutV ((a :: d :: gs).map V.int) (some 2) none)) := hq2
          rw [cut_from (by decide) (by rw [List.length_map, List.length_cons, List.length_cons]; omega)] at hq2
          replace hq2 : H5 q2 = some (.tup (gs.map V.int)) := hq2
          refine k1 ⟨"board", [.i a, .i d, .t gs]⟩ (.ref v) H7 ?_ (factL_board hns (by omega)) (e12.trans (e26.trans e7)) ⟨v, _, rfl, SqT.of hv, .cons (.i a) (.cons (.i d) (.cons (.t (SqT.of (e7 _ _ (e6 _ _ hq2)))) .nil))⟩
          rw [words_ns]
          show ("board" : Str) :: (a :: d :: gs).map iTx = ("board" : Str) :: (a :: d :: (gs ++ [])).map iTx
          rw [List.append_nil]

/-! rows that are no rows, pages that are none -/
theorem s_methT {C : Addr} {m : Str} {sp : Sp} {dvs : List V} {E : L2.St → XK} {ta : TE} {t : TA} {σ : L2.St} {H : Hp} {Q : VK} (k : ta σ H fun x H1 => ∃ a dx fs, x = .ref a ∧ H1 a = some (.ins C dx fs) ∧ fs.lookup m = none ∧ t σ H1 fun vs H2 => sp (x :: (vs ++ dvs)) H2 Q (E σ)) : tMethT C m sp dvs E ta t σ H Q := k
theorem no_gates : ∀ z ∈ ([("toll" : Str), "trust", "folk", "bargain", "pass", "lost", "paid"] : List Str), (match shapeOf z with | some ks => ks.all (fun k => decide (k ≠ "gates")) | none => true) = true := by
  intro z hz
  simp only [List.mem_cons, List.not_mem_nil, or_false] at hz
  rcases hz with rfl | rfl | rfl | rfl | rfl | rfl | rfl <;> decide +kernel
theorem shape_free {z : Str} {ks : List Str} (h : shapeOf z = some ks) (hb : z ≠ "board") : ("gates" : Str) ∉ ks := by
  have h8 := (shape_eight h).1
  have h7 : z ∈ ([("toll" : Str), "trust", "folk", "bargain", "pass", "lost", "paid"] : List Str) := by
    simp only [eightW, List.mem_cons, List.not_mem_nil, or_false] at h8 ⊢
    rcases h8 with e | e | e | e | e | e | e | e
    · exact .inl e
    · exact absurd e hb
    · exact .inr (.inl e)
    · exact .inr (.inr (.inl e))
    · exact .inr (.inr (.inr (.inl e)))
    · exact .inr (.inr (.inr (.inr (.inl e))))
    · exact .inr (.inr (.inr (.inr (.inr (.inl e)))))
    · exact .inr (.inr (.inr (.inr (.inr (.inr e)))))
  have := no_gates z h7
  rw [h] at this
  intro hg
  exact of_decide_eq_true (List.all_eq_true.mp this _ hg) rfl
/-- what is read may be told, or is refused at a place -/
theorem read_bent {f : Fct} (r : ReadOk f) : Bent f := by
  obtain ⟨shp, nums, word, free, sml⟩ := r
  rcases shp with ⟨ks, ns, kk, e, hs, hl, h1, h2⟩ | ⟨a, d, gs, rfl⟩
  · have hb : f.w ≠ "board" := fun z => by
      rcases (shape_eight hs).2 with ⟨_, e2⟩ | ⟨z2, _⟩
      · rw [e2] at h1
        cases h1
        exact h2 rfl
      · exact z2 z
    have h5 := ((kinds_of word).1 ks hs).2
    have hn : nsF f = ns := by
      unfold nsF
      rw [e]
      exact flat_i ns
    refine ⟨word, by rw [e, List.length_map]; omega, fun ks' e' _ i k x hk hx => ?_⟩
    rw [hs] at e'
    cases e'
    rw [e, List.getElem?_map] at hx
    obtain ⟨n, hn2, rfl⟩ := Option.map_eq_some_iff.mp hx
    have hkm := List.mem_of_getElem? hk
    have ho := nums n (by rw [hn]; exact List.mem_of_getElem? hn2)
    rcases h5.2 k hkm with z | z
    · exact ⟨z, by have := ho.1; omega, by have := ho.2; omega⟩
    · rw [z] at hkm
      exact absurd hkm (shape_free hs hb)
  · have ha := nums a (by show a ∈ a :: d :: (gs ++ []); simp)
    have hd := nums d (by show d ∈ a :: d :: (gs ++ []); simp)
    refine ⟨word, by show 3 ≤ 8; decide, fun ks' e' _ => ?_⟩
    rw [show shapeOf (Fct.mk "board" [.i a, .i d, .t gs]).w = some (["gate", "day", "gates"] : List Str) from by dsimp only; decide +kernel] at e'
    cases e'
    exact suits_of (.cons ⟨by decide +kernel, by have := ha.1; omega, by have := ha.2; omega⟩ (.cons ⟨by decide +kernel, by have := hd.1; omega, by have := hd.2; omega⟩ (.cons ⟨rfl, (sml.tup gs (by simp)).1⟩ .nil)))
theorem exm2 {cls c1 c2 : Value} {b1 b2 : Bool} (h1 : PySem.W.exmOne K cls c1 = some b1) (h2 : PySem.W.exmOne K cls c2 = some b2) : PySem.W.exmAny K cls [c1, c2] = some (b1 || (b2 || false)) := by
  unfold PySem.W.exmAny
  rw [h1]
  unfold PySem.W.exmAny
  rw [h2]
  unfold PySem.W.exmAny
  rfl
theorem words_inj {f g : Fct} (hf : ReadOk f) (hg : ReadOk g) (e : wordsF f = wordsF g) : f = g := by
  rw [words_ns, words_ns] at e
  obtain ⟨ew, en⟩ := List.cons.inj e
  replace en := iTx_injL hf.nums hg.nums en
  have bd : ∀ {f : Fct} {ks : List Str} {k : Str}, f.w = "board" → shapeOf f.w = some ks → ks.getLast? = some k → k ≠ "gates" → False := fun {f ks k} hw hs h1 h2 => by
    rcases (shape_eight hs).2 with ⟨_, e2⟩ | ⟨z2, _⟩
    · rw [e2] at h1
      cases h1
      exact h2 rfl
    · exact z2 hw
  rcases hf.shp with ⟨ks, ns, k, ex, hs, hl, h1, h2⟩ | ⟨a, d, gs, rfl⟩
  · rcases hg.shp with ⟨ks', ns', k', ex', hs', hl', h1', h2'⟩ | ⟨a', d', gs', rfl⟩
    · have n1 : nsF f = ns := by
        unfold nsF
        rw [ex]
        exact flat_i ns
      have n2 : nsF g = ns' := by
        unfold nsF
        rw [ex']
        exact flat_i ns'
      rw [n1, n2] at en
      obtain ⟨fw, fx⟩ := f
      obtain ⟨gw, gx⟩ := g
      dsimp only at ew ex ex'
      rw [ew, ex, ex', en]
    · exact (bd ew hs h1 h2).elim
  · rcases hg.shp with ⟨ks', ns', k', ex', hs', hl', h1', h2'⟩ | ⟨a', d', gs', rfl⟩
    · exact (bd ew.symm hs' h1' h2').elim
    · replace en : a :: d :: (gs ++ []) = a' :: d' :: (gs' ++ []) := en
      rw [List.append_nil, List.append_nil] at en
      cases en
      rfl
/-- a row that may be told as the i-th -/
def RowF (i : Nat) (z : Str) (rest : List Str) (f : Fct) : Prop := z = iTx ((i + 1 : Nat) : Int) ∧ rest = wordsF f ∧ ReadOk f ∧ placeF f = none
def spTellRowX (K : PySem.W.Frag) (C Cp : Addr) : Sp := fun vs H Q E => ∃ (r S U : Addr) (i : Nat) (row z : Str) (rest : List Str) (st : Stt) (sts uns : List Stt), vs = [.ref r, .int (i : Nat), .str row] ∧ RollAt K C H r S U sts uns ∧ sts.getLast? = some st ∧
  row.length ≤ 90000 ∧ Txt.split row " " = z :: rest ∧ (∀ y ∈ z :: rest, y.length ≤ 90000) ∧ rest.length ≤ 58 ∧ i ≤ 1000 ∧ st.length < 120 ∧ sts.length ≤ 900 ∧
  (∀ f, RowF i z rest f → ∀ H', Fr2 S U H H' → RollAt K C H' r S U (sts ++ [st ++ [some f]]) [] → Q .non H') ∧
  ((∀ f, ¬ RowF i z rest f) → ∀ H' d, Ex H H' → H' d = none → E (.ref Cp) (some d) (upd H' d (.xd [("row", .int (i : Nat)), ("called", .str "BadPage")])))
theorem ok_p_tell_row (T : Tx P K mg w) : FnOk P w K mg base (CX P w) 6 T.f_p_tell_row T.d_p_tell_row ["roll", "at", "row"] (spTellRowX K T.C_Roll T.C_BadPage) := by
  refine T.F_p_tell_row.okX sc_p_tell_row (fun vs H Q E h => ?_) (fun cdv A outer s H vs Q E hr h => ?_)
  · obtain ⟨r, S, U, i, row, z, rest, st, sts, uns, rfl, _⟩ := h
    rfl
  · obtain ⟨r, S, U, i, row, z, rest, st, sts, uns, rfl, hR, hst, hrl, hsp, hys, hfew, hi, hz, hzs, kg, kb⟩ := h
    have hnum : NumOk ((i + 1 : Nat) : Int) := num_small (by omega)
    have h16 := line16
    refine ⟨_, (pss_cons (ps_asg (pe_m1 PySem.F.slot_str_split PySem.F.type_str_split mz_split (pv 2) pe_str) (pg_star (i := 1) (m := 0) (by rfl) (pgs_cons (pg_name (i := 3) sc_p_tell_row.nd rfl (Or.inl rfl)) (pgs_star (pg_name (i := 4) sc_p_tell_row.nd rfl (Or.inl rfl)) pgs_nil)))) (pss_cons (ps_set (i := 5) sc_p_tell_row.nd rfl (Or.inl rfl) (pe_call (okG_p_read_fact T) (hr.mono (by decide)) rfl T.g_p_read_fact T.F_p_read_fact.kp T.b_p_read_fact .nil pass0 (pa_cons (pv 4) pa_nil))) (pss_cons (ps_if (PW.pt (pw_or (pt_cmpR op_isN1 (pv 5) pe_non (nomark _)) (pw_or1 (pt_cmpR op_ne (pv 3) (pe_callTy cz_strInt (by rfl) T.z_str (by decide +kernel) (pa_cons (pe_op op_add (pv 1) pe_int) pa_nil)) (nomark _))))) (pss_one (ps_raise rfl (takes_of rfl rfl rfl rfl) (pmk_ox T.pk_BadPage.ox T.in_BadPage T.FS_c_BadPage_init.ty (ok_c_BadPage_init T) (hr.mono (by decide)) T.b_c_BadPage_init .nil pass0 rfl T.g_BadPage (pa_cons (pv 1) pa_nil)))) pss_nil) (pss_one (L2H.ps_try_tup2X rfl rfl ⟨rfl, by decide, .inl T.g_BadFact⟩ ⟨rfl, by decide, .inl T.g_Full⟩ (L2H.passesAt_of rfl) (takes_of rfl rfl rfl rfl) (fun W pn xe tk po => (pss_one (ps_expr (pe_methT (pv 0) T.cls_Roll ⟨T.at_c_Roll_tell, T.fn_c_Roll_tell, T.F_c_Roll_tell.kp⟩ (ok_c_Roll_tell T) (hr.mono (by decide)) T.b_c_Roll_tell .nil (fun σ => L2N.passAt tk σ) (pa_cons (pv 5) pa_nil))))) (fun a oe cls d pn hz hf tkS hot => (pss_one (L2H.ps_raiseHN hot tkS (L2H.pmk5_oxH T.pk_BadPage.ox T.in_BadPage T.FS_c_BadPage_init.ty (okH_c_BadPage_init T) (L2H.roomH_mark (hr.mono (by decide)) _) hot (T.b_c_BadPage_init) pass0 rfl T.g_BadPage (pa_cons (pv 1) pa_nil)))))))))), ?_⟩
    refine at_start (ρ' := [some _, some _, some _, none, none, none]) rfl ?_
    walk_at "z0"
    walk_at "z"
    refine s_splitS (by decide +kernel) (by omega) hsp ?_
    refine s_new fun q H1 nq e1 hq => ?_
    refine ⟨q, _, rfl, SqL.of hq, by rw [List.map_cons, List.length_cons]; omega, by rw [List.length_map, List.length_cons]; omega, fun p1 np => ?_⟩
    rw [List.map_cons, show (V.str z :: rest.map V.str).length - 0 - 1 = (rest.map V.str).length from rfl, List.drop_one, List.tail_cons, List.take_length, List.drop_length]
    have e2 := Ex.new (o := .lst (rest.map V.str)) np
    have hp1 : (upd H1 p1 (.lst (rest.map V.str))) p1 = some (.lst (rest.map V.str)) := upd_same
    generalize upd H1 p1 (.lst (rest.map V.str)) = H2 at e2 hp1
    show gCons (gName 3) (gCons (gName 4) gNil) [V.str z, V.ref p1] _ _ _
    walk_at "z"
    have bad : ∀ H3, Ex H H3 → (∀ f, ¬ RowF i z rest f) → [V.int (i : Nat)].length ≤ 1000 ∧ ∀ a, H3 a = none → spPlace K T.C_PikeError T.C_BadPage T.f_c_PikeError_init "row" (.ref a :: ([V.int (i : Nat)] ++ [])) (upd H3 a (exo a T.C_BadPage none)) (MkQ T.C_BadPage H3 (fun cls d H' => E cls d H') a) (fun _ _ _ => False) := fun H3 e3 no =>
      use_place T.pk_BadPage T.sc_BadPage T.so_BadPage T.no_BadPage (log_small (by omega) (by omega)) fun d hd => kb no H3 d e3 hd
    refine ⟨p1, rest, rfl, SqL.of hp1, fun y hy => hys y (List.mem_cons_of_mem _ hy), by omega, fun f v H3 hf hok e3 hrf => ?_, fun hno H3 e3 => ?_⟩
    rotate_left
    · walk_at "z"
      refine s_mkO ?_
      walk_at "z"
      exact bad H3 ((e1.trans e2).trans e3) fun f hf => hno ⟨f, hf.2.1, hf.2.2.1⟩
    obtain ⟨va, us, rfl, hva, hus⟩ := id hrf
    have e03 := (e1.trans e2).trans e3
    have hR3 := hR.ex e03
    obtain ⟨dx, h3⟩ := id hR3.ob
    have hbt := read_bent hok
    walk_at "z"
    refine s_rStrInt (log_small (by omega) (by omega)) ?_
    walk_at "z"
    by_cases hzn : z = iTx ((i + 1 : Nat) : Int)
    case neg =>
      refine ite_npos (fun e => hzn (e.trans (show iTx ((i : Nat) + 1) = iTx ((i + 1 : Nat) : Int) from congrArg iTx (by omega)))) ?_
      refine s_mkO ?_
      walk_at "z"
      exact bad H3 e03 fun f hf => hzn hf.1
    refine ite_nneg (show z = iTx ((i : Nat) + 1) from hzn.trans (congrArg iTx (by omega))) ?_
    walk_at "z"
    refine s_methT ?_
    walk_at "z"
    refine ⟨r, dx, _, rfl, h3, rfl, ?_⟩
    walk_at "z"
    refine ⟨r, S, U, .ref va, f, st, sts, uns, rfl, hR3, hst, by omega, by omega, hrf, hbt, fun hpl hlt H4 f4 hR4 => ?_, fun p hp H4 d e4 hd => ?_, fun _ hl => ?_⟩
    · walk_at "z"
      exact kg f ⟨hzn, hf, hok, hpl⟩ H4 (Fr2.trans (Ex.f2 e03) f4) hR4
    · refine ⟨true, exm2 T.e_BadFact T.e_BadFact_Full, fun _ a ha => ?_, fun z => by cases z⟩
      refine s_mkO ?_
      walk_at "z"
      refine bad _ ((e03.trans e4).trans (Ex.new hd)) fun g hg => ?_
      have := words_inj hok hg.2.2.1 (hf.symm.trans hg.2.1)
      have z4 := hg.2.2.2
      rw [← this, hp] at z4
      cases z4
    · omega
/-- a row of a page, as the i-th -/
def RowT (i : Nat) (row : Str) (f : Fct) : Prop := ∃ z rest, Txt.split row " " = z :: rest ∧ RowF i z rest f
def RowSm (row : Str) : Prop := row.length ≤ 90000 ∧ ∃ z rest, Txt.split row " " = z :: rest ∧ (∀ y ∈ z :: rest, y.length ≤ 90000) ∧ rest.length ≤ 58
theorem prefs_snoc (fs : List Fct) (f : Fct) : prefs (fs ++ [f]) (fs.length + 1) = prefs fs fs.length ++ [fs.map some ++ [some f]] := by
  rw [prefs_succ, List.take_of_length_le (by rw [List.length_append]; exact Nat.le_refl _), List.map_append]
  congr 1
  unfold prefs
  refine List.map_congr_left fun j hj => ?_
  have := List.mem_range.mp hj
  rw [List.take_append_of_le_length (by omega)]
def spReadPX (K : PySem.W.Frag) (C Cp : Addr) : Sp := fun vs H Q E => ∃ (text last : Str) (rows : List Str), vs = [.str text] ∧ text.length ≤ 10000000 ∧ Txt.split text "\n" = rows ++ [last] ∧ rows.length ≤ 119 ∧ (∀ row ∈ rows, RowSm row) ∧
  (∀ fs : List Fct, fs.length = rows.length → (∀ j row f, rows[j]? = some row → fs[j]? = some f → RowT j row f) → last = "" → ∀ r S U H', H r = none → H S = none → H U = none → Ex H H' → RollAt K C H' r S U (prefs fs fs.length) [] → Q (.ref r) H') ∧
  (∀ j : Nat, (∀ i row, i < j → rows[i]? = some row → ∃ f, RowT i row f) → ((∃ row, rows[j]? = some row ∧ ∀ f, ¬ RowT j row f) ∨ (j = rows.length ∧ last ≠ "")) → ∀ H' d, Ex H H' → H' d = none → E (.ref Cp) (some d) (upd H' d (.xd [("row", .int (j : Nat)), ("called", .str "BadPage")])))
theorem ok_p_read_page (T : Tx P K mg w) : FnOk P w K mg base (CX P w) 7 T.f_p_read_page T.d_p_read_page ["text"] (spReadPX K T.C_Roll T.C_BadPage) := by
  refine T.F_p_read_page.okX sc_p_read_page (fun vs H Q E h => ?_) (fun cdv A outer s H vs Q E hr h => ?_)
  · obtain ⟨text, last, rows, rfl, _⟩ := h
    rfl
  · obtain ⟨text, last, rows, rfl, htl, hsp, hz, hrow, kg, kb⟩ := h
    have h16 := line16
    refine ⟨_, (pss_cons (ps_asg (pe_m1 PySem.F.slot_str_split PySem.F.type_str_split mz_split (pv 0) pe_str) (pg_star (i := 0) (m := 1) (by rfl) (pgs_star (pg_name (i := 1) sc_p_read_page.nd rfl (Or.inl rfl)) (pgs_cons (pg_name (i := 2) sc_p_read_page.nd rfl (Or.inl rfl)) pgs_nil)))) (pss_cons (ps_set (i := 3) sc_p_read_page.nd rfl (Or.inl rfl) (pe_make0 T.mk_Roll (ok_c_Roll_init T) (hr.mono (by decide)) rfl T.g_Roll T.b_c_Roll_init .nil pass0)) (pss_cons (ps_for (passes_of rfl) rfl (pi_enum (by rfl) T.z_enumerate (pa_cons (pv 1) pa_nil)) (pg_tup (by rfl) (pgs_cons (pg_name (i := 4) sc_p_read_page.nd rfl (Or.inl rfl)) (pgs_cons (pg_name (i := 5) sc_p_read_page.nd rfl (Or.inl rfl)) pgs_nil))) (pss_one (ps_expr (pe_call (ok_p_tell_row T) (hr.mono (by decide)) rfl T.g_p_tell_row T.F_p_tell_row.kp T.b_p_tell_row .nil (passes_up (takes_of rfl rfl rfl rfl) fun _ _ _ _ h => h) (pa_cons (pv 3) (pa_cons (pv 4) (pa_cons (pv 5) pa_nil))))))) (pss_cons (ps_if (pt_cmpR op_ne (pv 2) pe_str (nomark _)) (pss_one (ps_raise rfl (takes_of rfl rfl rfl rfl) (pmk_ox T.pk_BadPage.ox T.in_BadPage T.FS_c_BadPage_init.ty (ok_c_BadPage_init T) (hr.mono (by decide)) T.b_c_BadPage_init .nil pass0 rfl T.g_BadPage (pa_cons (pe_callB (r := Z.rLen K) cz_len (by rfl) T.z_len PySem.boot_len (pa_cons (pv 1) pa_nil)) pa_nil)))) pss_nil) (pss_one (ps_ret (pv 3))))))), ?_⟩
    refine at_start (ρ' := [some _, none, none, none, none, none]) rfl ?_
    walk_at "z0"
    walk_at "z"
    refine s_splitS (by decide +kernel) (by omega) hsp ?_
    refine s_new fun q H1 nq e1 hq => ?_
    rw [List.map_append] at hq
    refine ⟨q, _, rfl, SqL.of hq, by rw [List.length_append]; show 0 + 1 ≤ _ + 1; omega, by rw [List.length_append, List.length_map]; show _ + 1 ≤ _; omega, fun p1 np => ?_⟩
    have el : (rows.map V.str ++ List.map V.str [last]).length - 1 - 0 = (rows.map V.str).length := by rw [List.length_append]; rfl
    rw [el, List.drop_zero, List.take_zero, List.take_left, List.drop_left]
    have e2 := Ex.new (o := .lst (rows.map V.str)) np
    have hp1 : (upd H1 p1 (.lst (rows.map V.str))) p1 = some (.lst (rows.map V.str)) := upd_same
    generalize upd H1 p1 (.lst (rows.map V.str)) = H2 at e2 hp1
    show gCons (gName 1) (gCons (gName 2) gNil) [V.ref p1, V.str last] _ _ _
    walk_at "z"
    refine s_make ?_
    intro r dx nr ndx nxd
    have eN : Ex H2 (upd (upd H2 dx (.own r)) r (.ins T.C_Roll dx [])) := (Ex.new ndx).trans (Ex.new (by rw [upd_ne nxd.symm]; exact nr))
    refine ⟨r, dx, rfl, upd_same, fun S U H3 nS nU f3 hR => ⟨rfl, ?_⟩⟩
    have nrd : H2 r = none := nr
    have e23 : Ex H2 H3 := fun x o h => f3 _ _ (fun z => by rw [z, nrd] at h; cases h) (eN _ _ h)
    have e02 := e1.trans e2
    have hp3 := e23 _ _ hp1
    have nS0 : H S = none := Ex.back (e02.trans eN) nS
    have nU0 : H U = none := Ex.back (e02.trans eN) nU
    have nr0 : H r = none := Ex.back e02 nrd
    have npS : p1 ≠ S := fun z => by
      have := eN _ _ hp1
      rw [z, nS] at this
      cases this
    have npU : p1 ≠ U := fun z => by
      have := eN _ _ hp1
      rw [z, nU] at this
      cases this
    have fin : ∀ {H4 : Hp}, Fr2 S U H3 H4 → Ex H H4 := fun {H4} f4 x o h => f4 _ _ (fun z => by rw [z, nS0] at h; cases h) (fun z => by rw [z, nU0] at h; cases h) (e23 _ _ (e02 _ _ h))
    walk_at "z"
    refine l_enum (rows.map V.str) (fun i σ H' => ∃ v4 v5, σ = [some (.str text), some (.ref p1), some (.str last), some (.ref r), v4, v5] ∧ Fr2 S U H3 H' ∧ ∃ fs : List Fct, fs.length = i ∧ (∀ j row f, rows[j]? = some row → fs[j]? = some f → RowT j row f) ∧ RollAt K T.C_Roll H' r S U (prefs fs fs.length) [])
      ⟨_, _, rfl, Fr2.refl, [], rfl, fun j row f _ h => by simp at h, hR⟩ (fun i σ H' _ h => SqL.of (h.choose_spec.choose_spec.2.1 _ _ npS npU hp3)) (fun i x σ H4 t hx h nt => ?_) (fun σ H4 h => ?_)
    · obtain ⟨v4, v5, rfl, f4, fs, hfl, hfs, hR4⟩ := h
      rw [List.getElem?_map] at hx
      obtain ⟨row, hx1, rfl⟩ := Option.map_eq_some_iff.mp hx
      have hi := (List.getElem?_eq_some_iff.mp hx1).1
      obtain ⟨hl90, z, rest, hs, hys, hfew⟩ := hrow row (List.mem_of_getElem? hx1)
      have e5 := Ex.new (o := .tup [.int (i : Nat), .str row]) nt
      have ht : (upd H4 t (.tup [.int (i : Nat), .str row])) t = some (.tup [.int (i : Nat), .str row]) := upd_same
      generalize upd H4 t (.tup [.int (i : Nat), .str row]) = H5 at e5 ht
      have hR5 := hR4.ex e5
      walk_at "z"
      have hlast : (prefs fs fs.length).getLast? = some (fs.map some) := by rw [prefs_last, List.take_length]
      refine ⟨r, S, U, i, row, z, rest, fs.map some, prefs fs fs.length, [], rfl, hR5, hlast, hl90, hs, hys, hfew, by omega, by rw [List.length_map]; omega, by rw [prefs_len]; omega, fun f hf H6 f6 hR6 => ?_, fun no H6 d e6 hd => ?_⟩
      · rw [← prefs_snoc] at hR6
        walk_at "z"
        refine ⟨_, _, rfl, f4.trans (Fr2.trans (Ex.f2 e5) f6), fs ++ [f], by rw [List.length_append, hfl]; rfl, fun j row' g hj hg => ?_, by rw [List.length_append]; exact hR6⟩
        rw [List.getElem?_append] at hg
        split at hg
        · exact hfs j row' g hj hg
        · have hj2 : j = i := by
            have := (List.getElem?_eq_some_iff.mp hg).1
            simp at this
            omega
          subst hj2
          rw [show j - fs.length = 0 from by omega] at hg
          cases hg
          rw [hx1] at hj
          cases hj
          exact ⟨z, rest, hs, hf⟩
      · refine kb i (fun j row' hj hr' => ?_) (.inl ⟨row, hx1, fun f ⟨z', rest', h1, h2⟩ => ?_⟩) H6 d ((fin f4).trans (e5.trans e6)) hd
        · have hj2 : j < fs.length := by omega
          exact ⟨fs[j], hfs j row' _ hr' (List.getElem?_eq_getElem hj2)⟩
        · rw [hs] at h1
          cases h1
          exact no f h2
    · obtain ⟨v4, v5, rfl, f4, fs, hfl, hfs, hR4⟩ := h
      rw [List.length_map] at hfl
      have hp4 := f4 _ _ npS npU hp3
      walk_at "z"
      by_cases hla : last = ""
      · refine ite_nneg hla ?_
        walk_at "z"
        exact kg fs hfl hfs hla r S U H4 nr0 nS0 nU0 (fin f4) hR4
      · refine ite_npos hla ?_
        refine s_mkO ?_
        walk_at "z"
        rw [List.length_map]
        exact use_place T.pk_BadPage T.sc_BadPage T.so_BadPage T.no_BadPage (log_small (by omega) (by omega)) fun d hd => kb rows.length (fun j row' hj hr' => ⟨fs[j]'(by omega), hfs j row' _ hr' (List.getElem?_eq_getElem (by omega))⟩) (.inr ⟨rfl, hla⟩) H4 d (fin f4) hd

/-! the law's own reading -/
theorem c_str {z : Str} {g : TG} {tt : TT} {te : TE} {vs : List Nat} {σ : L2.St} {H : Hp} {Q : VK} (Iv : Addr → Hp → Prop) (R : Addr → Nat → List V → Hp → Prop)
    (h0 : ∀ D H', H D = none → Ex H H' → H' D = some (.lst []) → Iv D H' ∧ R D 0 [] H')
    (hs : ∀ D (i : Nat) l H1 c, z.cps[i]? = some c → Iv D H1 → H1 D = some (.lst l) → l.length ≤ i → R D i l H1 → g (.str ⟨#[c]⟩) (wipe σ vs) H1 fun σ2 H2 => wipe σ2 vs = wipe σ vs ∧ tt σ2 H2 fun b H3 =>
      if b = true then te σ2 H3 fun y H4 => ∃ acc, H4 D = some (.lst acc) ∧ acc.length < sizeLine ∧ Cv Iv R D (i + 1) (upd H4 D (.lst (acc ++ [y]))) else Cv Iv R D (i + 1) H3)
    (hd : ∀ D l H', Iv D H' → H' D = some (.lst l) → l.length ≤ z.cps.size → R D z.cps.size l H' → Q (.ref D) H') :
    ∃ x, V.str z = .str x ∧ LcW (Its x) g tt te vs σ H Q :=
  ⟨z, rfl, c_it walk_str Iv R h0 (fun _ _ _ => trivial) (fun D i l H1 x H1' hi a hl hz r y => by
    obtain ⟨e, c, y1, y2⟩ := y
    subst e y2
    exact hs D i l _ c y1 a hl hz r) hd⟩
theorem num_str {z : Str} (h : NumW z) : 1 ≤ z.length ∧ z.length ≤ 30 ∧ (∀ c ∈ TL.tl z, 48 ≤ c ∧ c < 58) ∧ (TL.tl z = [48] ∨ (TL.tl z).head? ≠ some 48) := by
  have h30 := (num_free h).2.2.1
  obtain ⟨n, hn, e⟩ := numW_tl h
  have hne := TL.numL_ne n
  refine ⟨?_, h30, fun c hc => ?_, ?_⟩
  · rw [TL.len_tl, e]
    exact List.length_pos_iff.mpr hne
  · rw [e] at hc
    have := TL.numL_digits n c hc
    omega
  · rw [e]
    by_cases h0 : n = 0
    · left
      rw [h0]
      exact TL.numL_lt (by decide)
    · exact .inr fun q => h0 (numL_head n q)
theorem one_sign {c : Nat} (h : (⟨#[c]⟩ : Str) = "0") : c = 48 := by
  have := congrArg TL.tl h
  rw [show TL.tl ("0" : Str) = [48] from by decide +kernel] at this
  exact (List.cons.inj this).1
def spNumRead : Sp := fun vs H Q _ => ∃ z : Str, vs = [.str z] ∧ z.length ≤ 90000 ∧ (∀ n H', NumOk n → z = iTx n → Ex H H' → Q (.int n) H') ∧ (¬ NumW z → ∀ H', Ex H H' → Q .non H')
theorem sc_l_number_read : FnScope ["_law_word", "_law_sign_here"] ["_law_word"] (defScope s_l_number_read) :=
  ⟨rfl, rfl, rfl, by decide +kernel, rfl, by decide +kernel, by decide +kernel⟩
theorem ok_l_number_read (T : Tx P K mg w) : FnOk P w K mg base CX0 1 T.f_l_number_read T.d_l_number_read ["_law_word"] spNumRead := by
  refine T.F_l_number_read.ok sc_l_number_read (fun vs H Q E h => ?_) (fun cdv A outer s H vs Q E hr h => ?_)
  · obtain ⟨z, rfl, _⟩ := h
    rfl
  · obtain ⟨z, rfl, hz, k1, k2⟩ := h
    refine ⟨_, (pss_cons (ps_if (PW.pt (pw_or (pt_not (pt_chain op_le op_le pe_int (pe_callB cz_lenStr (by rfl) T.z_len PySem.boot_len (pa_cons (pv 0) pa_nil)) pe_int)) (pw_or1 (pt_not (pt_val (pe_callB (r := rAll K) (cr_all rfl) (by rfl) T.z_all (by decide +kernel) (pa_cons (pe_lc (own := [("_law_sign_here", 1)]) (by rfl) sc_l_number_read.nd (pi_str (pv 0)) (blkOk_by (own := [("_law_sign_here", 1)]) (N := ["_law_word", "_law_sign_here"]) (sc := defScope s_l_number_read) (by decide +kernel)) (fun _ _ _ _ _ => (pg_name (i := 1) sc_l_number_read.nd rfl (Or.inl rfl))) (fun _ _ _ _ _ => pts_nil) (fun _ _ _ _ _ => (pe_cmpR op_inS (pv 1) pe_str (by rfl)))) pa_nil))))))) (pss_one (ps_ret pe_non)) pss_nil) (pss_one (ps_ret (pe_ifExp (PW.pt (pw_and (pt_cmpR op_gt (pe_callB cz_lenStr (by rfl) T.z_len PySem.boot_len (pa_cons (pv 0) pa_nil)) pe_int (nomark _)) (pw_and1 (pt_cmpR op_eq (pe_ix ix_str (pv 0) pe_int (fun _ _ => rfl)) pe_str (nomark _))))) pe_non (pe_callTy cz_intS (by rfl) T.z_int (by decide +kernel) (pa_cons (pv 0) pa_nil)))))), ?_⟩
    refine at_start (ρ' := [some _, none]) rfl ?_
    walk_at "z0"
    walk_at "z"
    refine s_rLenStr (sz (by omega)) ?_
    walk_at "z"
    have no : ¬ NumW z → ∀ H', Ex H H' → Q .non H' := k2
    refine ite_dec (fun h1 => ?_) (fun h1 => ?_)
    rotate_left
    · walk_at "z"
      exact k2 (fun h => by have := (num_str h).1; omega) H Ex.refl
    walk_at "z"
    refine ite_ndec (fun h30 => ?_) (fun h30 => ?_)
    · walk_at "z"
      exact k2 (fun h => by have := (num_str h).2.1; omega) H Ex.refl
    walk_at "z"
    have hz2 : z.cps.size = z.length := rfl
    refine c_str (fun D H' => H D = none ∧ Ex H H') (fun D i acc H' => acc = ((z.cps.toList.take i).map fun c => decide (c ∈ ("0123456789" : Str).cps.toList)).map V.bl) (fun D H' n e _ => ⟨⟨n, e⟩, rfl⟩) (fun D i acc H1 c hc Iv hD hn r => ?_) (fun D acc H1 Iv hD hn r => ?_)
    · obtain ⟨nD, e1⟩ := Iv
      have hi : i < z.cps.size := (Array.getElem?_eq_some_iff.mp hc).1
      walk_at "z"
      refine ⟨rfl, ?_⟩
      walk_at "z"
      refine c_put hD ⟨hn, by omega⟩ fun H2 f2 _ => ⟨⟨nD, e1.fr2 nD f2⟩, ?_⟩
      have hc2 : z.cps.toList[i]? = some c := by rw [Array.getElem?_toList]; exact hc
      rw [r, List.take_succ, hc2, List.map_append, List.map_append]
      rfl
    · obtain ⟨nD, e1⟩ := Iv
      rw [List.take_of_length_le (by rw [Array.length_toList]; exact Nat.le_refl _)] at r
      subst r
      walk_at "z"
      refine s_rAll (z.cps.toList.map fun c => decide (c ∈ ("0123456789" : Str).cps.toList)) (SqL.of hD) rfl ?_
      have dg : ∀ c : Nat, c ∈ ("0123456789" : Str).cps.toList ↔ 48 ≤ c ∧ c < 58 := fun c => by
        have e : ("0123456789" : Str).cps.toList = [48, 49, 50, 51, 52, 53, 54, 55, 56, 57] := by decide +kernel
        rw [e]
        simp only [List.mem_cons, List.not_mem_nil, or_false]
        omega
      cases hall : (z.cps.toList.map fun c => decide (c ∈ ("0123456789" : Str).cps.toList)).all id with
      | false =>
        walk_at "z"
        refine k2 (fun h => ?_) H1 e1
        rw [List.all_eq_false] at hall
        obtain ⟨b, hb, h2⟩ := hall
        obtain ⟨c, hc, rfl⟩ := List.mem_map.mp hb
        exact h2 (decide_eq_true ((dg c).mpr ((num_str h).2.2.1 c hc)))
      | true =>
        have hd : ∀ c ∈ TL.tl z, 48 ≤ c ∧ c < 58 := fun c hc => (dg c).mp (of_decide_eq_true (List.all_eq_true.mp hall _ (List.mem_map.mpr ⟨c, hc, rfl⟩)))
        have hne : TL.tl z ≠ [] := fun e => by
          have := TL.len_tl z
          rw [e] at this
          simp at this
          omega
        walk_at "z"
        refine s_rLenStr (sz (by omega)) ?_
        walk_at "z"
        refine ite_dec (fun h2 => ?_) (fun h2 => ?_)
        · obtain ⟨c, r, hcr⟩ : ∃ c r, TL.tl z = c :: r := by
            cases e : TL.tl z with
            | nil => exact absurd e hne
            | cons c r => exact ⟨c, r, rfl⟩
          walk_at "z"
          refine s_ixS (sz (by omega)) (by rw [show z.cps.toList = c :: r from hcr]; exact at0 _ _) ?_
          walk_at "z"
          refine ite_dec (fun h0 => ?_) (fun h0 => ?_)
          · walk_at "z"
            refine k2 (fun h => ?_) H1 e1
            have ec : c = 48 := one_sign h0
            rcases (num_str h).2.2.2 with e | e
            · rw [TL.len_tl, e] at h2
              simp at h2
            · rw [hcr, ec] at e
              exact e rfl
          · obtain ⟨n, hn, en⟩ := numW_of (by omega) hd hne (.inr fun q => h0 (by
              rw [hcr] at q
              cases q
              rfl))
            walk_at "z"
            refine s_intS (n := n) (by rw [en]; exact iTx_read hn) (by omega) ?_
            exact k1 n H1 hn en e1
        · obtain ⟨n, hn, en⟩ := numW_of (by omega) hd hne (by
            cases e : TL.tl z with
            | nil => exact absurd e hne
            | cons c r =>
              have hl := TL.len_tl z
              rw [e, List.length_cons] at hl
              have hr : r = [] := List.length_eq_zero_iff.mp (by omega)
              subst hr
              by_cases h48 : c = 48
              · exact .inl (by rw [h48])
              · exact .inr fun q => h48 (by cases q; rfl))
          walk_at "z"
          refine s_intS (n := n) (by rw [en]; exact iTx_read hn) (by omega) ?_
          exact k1 n H1 hn en e1
/-! a fact's words, the law's own reading -/
def lawSizes : List (Key × V) := [(.inr "toll", .int 4), (.inr "board", .int 3), (.inr "trust", .int 4), (.inr "folk", .int 4), (.inr "bargain", .int 5), (.inr "pass", .int 6), (.inr "lost", .int 3), (.inr "paid", .int 4)]
def szW (z : Str) (ks : List Str) : Nat := if z = "board" then 3 else ks.length + 1
theorem sizes_none {z : Str} (h : z ∉ eightW) : valV lawSizes (Sum.inr z) = none := by
  simp only [eightW, List.mem_cons, List.not_mem_nil, or_false, not_or] at h
  obtain ⟨h1, h2, h3, h4, h5, h6, h7, h8⟩ := h
  have g : ∀ {x : Str}, ¬ z = x → ¬ (Sum.inr x : Key) = Sum.inr z := fun n e => n (Sum.inr.inj e).symm
  exact valV_noK (g h1) (valV_noK (g h2) (valV_noK (g h3) (valV_noK (g h4) (valV_noK (g h5) (valV_noK (g h6) (valV_noK (g h7) (valV_noK (g h8) valV_nil)))))))
theorem sizes_of {z : Str} {ks : List Str} (h : shapeOf z = some ks) : valV lawSizes (Sum.inr z) = some (.int (szW z ks : Nat)) := by
  have go : ∀ {z : Str} {l ks : List Str} {m : Nat}, shapeOf z = some l → shapeOf z = some ks → szW z l = m → valV lawSizes (Sum.inr z) = some (.int (m : Nat)) → valV lawSizes (Sum.inr z) = some (.int (szW z ks : Nat)) := fun a b c d => by
    rw [a] at b
    cases b
    rw [c]
    exact d
  have h8 := (shape_eight h).1
  simp only [eightW, List.mem_cons, List.not_mem_nil, or_false] at h8
  rcases h8 with rfl | rfl | rfl | rfl | rfl | rfl | rfl | rfl
  · exact go (l := ["gate", "day", "toll"]) (m := 4) (by decide +kernel) h (by decide +kernel) (by repeat (first | exact valV_pos rfl | refine valV_no (by decide +kernel) ?_))
  · exact go (l := ["gate", "day", "gates"]) (m := 3) (by decide +kernel) h (by decide +kernel) (by repeat (first | exact valV_pos rfl | refine valV_no (by decide +kernel) ?_))
  · exact go (l := ["gate", "day", "trust"]) (m := 4) (by decide +kernel) h (by decide +kernel) (by repeat (first | exact valV_pos rfl | refine valV_no (by decide +kernel) ?_))
  · exact go (l := ["carriage", "day", "day"]) (m := 4) (by decide +kernel) h (by decide +kernel) (by repeat (first | exact valV_pos rfl | refine valV_no (by decide +kernel) ?_))
  · exact go (l := ["gate", "carriage", "day", "day"]) (m := 5) (by decide +kernel) h (by decide +kernel) (by repeat (first | exact valV_pos rfl | refine valV_no (by decide +kernel) ?_))
  · exact go (l := ["day", "minute", "gate", "carriage", "horses"]) (m := 6) (by decide +kernel) h (by decide +kernel) (by repeat (first | exact valV_pos rfl | refine valV_no (by decide +kernel) ?_))
  · exact go (l := ["number", "minute"]) (m := 3) (by decide +kernel) h (by decide +kernel) (by repeat (first | exact valV_pos rfl | refine valV_no (by decide +kernel) ?_))
  · exact go (l := ["carriage", "day", "payment"]) (m := 4) (by decide +kernel) h (by decide +kernel) (by repeat (first | exact valV_pos rfl | refine valV_no (by decide +kernel) ?_))
noncomputable def numV (z : Str) : V := @dite V (NumW z) (Classical.propDecidable _) (fun h => .int h.choose) fun _ => .non
theorem numV_i {n : Int} (h : NumOk n) : numV (iTx n) = .int n := by
  have hw : NumW (iTx n) := ⟨n, h, rfl⟩
  unfold numV
  rw [dif_pos hw]
  have hs := hw.choose_spec
  rw [iTx_inj hs.1 h hs.2.symm]
theorem numV_n {z : Str} (h : ¬ NumW z) : numV z = .non := by
  unfold numV
  rw [dif_neg h]
theorem numV_flat (ys : List Str) : (ys.map numV).all flatV = true := List.all_eq_true.mpr fun x hx => by
  obtain ⟨y, _, rfl⟩ := List.mem_map.mp hx
  by_cases h : NumW y
  · obtain ⟨n, hn, rfl⟩ := h
    rw [numV_i hn]
    rfl
  · rw [numV_n h]
    rfl
theorem numV_map {ns : List Int} (h : ∀ n ∈ ns, NumOk n) : (ns.map iTx).map numV = ns.map V.int := by
  rw [List.map_map]
  exact List.map_congr_left fun n hn => numV_i (h n hn)

/-! is it a fact, is it a line: the law's own -/
theorem in_non {ys : List Str} (h : ∃ y ∈ ys, ¬ NumW y) : inV .non (ys.map numV) = true := by
  obtain ⟨y, hy, hn⟩ := h
  unfold inV
  rw [List.any_eq_true]
  exact ⟨.non, List.mem_map.mpr ⟨y, hy, numV_n hn⟩, rfl⟩
theorem in_ints (ns : List Int) : inV .non (ns.map V.int) = false := by
  unfold inV
  rw [List.any_eq_false]
  intro x hx
  obtain ⟨n, _, rfl⟩ := List.mem_map.mp hx
  intro q
  cases q
def spFRead (K : PySem.W.Frag) : Sp := fun vs H Q _ => ∃ (L : Addr) (ys : List Str), vs = [.ref L] ∧ SqL K H L (ys.map V.str) ∧ (∀ y ∈ ys, y.length ≤ 90000) ∧ ys.length ≤ 60 ∧
  (∀ f v H', ys = wordsF f → ReadOk f → Ex H H' → RF K H' v f → Q v H') ∧ (¬ FactL ys → ∀ H', Ex H H' → Q .non H')
theorem sc_l_fact_read : FnScope ["_law_words", "_law_sizes", "_law_numbers", "_law_word"] ["_law_words"] (defScope s_l_fact_read) :=
  ⟨rfl, rfl, rfl, by decide +kernel, rfl, by decide +kernel, by decide +kernel⟩
theorem ok_l_fact_read (T : Tx P K mg w) : FnOk P w K mg base CX0 2 T.f_l_fact_read T.d_l_fact_read ["_law_words"] (spFRead K) := by
  refine T.F_l_fact_read.ok sc_l_fact_read (fun vs H Q E h => ?_) (fun cdv A outer s H vs Q E hr h => ?_)
  · obtain ⟨L, ys, rfl, _⟩ := h
    rfl
  · obtain ⟨L, ys, rfl, hL, hys, hfew, k1, k2⟩ := h
    refine ⟨_, (pss_cons (ps_set (i := 1) sc_l_fact_read.nd rfl (Or.inl rfl) (pe_disp (pps_cons pe_str pe_int (pps_cons pe_str pe_int (pps_cons pe_str pe_int (pps_cons pe_str pe_int (pps_cons pe_str pe_int (pps_cons pe_str pe_int (pps_cons pe_str pe_int (pps_cons pe_str pe_int pps_nil)))))))) rfl rfl (by simp) (by decide))) (pss_cons (ps_if (PW.pt (pw_or (pt_cmpR op_eq (pe_callB (r := Z.rLen K) cz_len (by rfl) T.z_len PySem.boot_len (pa_cons (pv 0) pa_nil)) pe_int (nomark _)) (pw_or1 (pt_cmp (pc_dnotin (hu_of hr) (pe_ix (r := rIxL K) ix_list (pv 0) pe_int (fun _ _ => rfl)) (pv 1)))))) (pss_one (ps_ret pe_non)) pss_nil) (pss_cons (ps_setLc (i := 2) (own := [("_law_word", 3)]) (by rfl) sc_l_fact_read.nd rfl rfl (sw_true rfl rfl rfl (by decide +kernel)) (pi_list (pe_slice (r := rSlL K) sl_list (pv 0) (po_some pe_int) po_none)) (blkOk_by (own := [("_law_word", 3)]) (N := ["_law_words", "_law_sizes", "_law_numbers", "_law_word"]) (sc := defScope s_l_fact_read) (by decide +kernel)) (fun _ _ _ _ _ => (pg_name (i := 3) sc_l_fact_read.nd rfl (Or.inl rfl))) (fun _ _ _ _ _ => pts_nil) (fun _ _ _ _ _ => (pe_call (ok_l_number_read T) (hr.mono (by decide)) rfl T.g_l_number_read T.F_l_number_read.kp T.b_l_number_read .nil pass0 (pa_cons (pv 3) pa_nil)))) (pss_cons (ps_if (PW.pt (pw_or (pt_cmpR (r := rIn K false) op_in_seq pe_non (pv 2) (by rfl)) (pw_or1 (pt_cmpR op_lt (pe_callB (r := Z.rLen K) cz_len (by rfl) T.z_len PySem.boot_len (pa_cons (pv 0) pa_nil)) (pe_dget (hu_of hr) (pv 1) (pe_ix (r := rIxL K) ix_list (pv 0) pe_int (fun _ _ => rfl)) (fun _ _ => rfl)) (nomark _))))) (pss_one (ps_ret pe_non)) pss_nil) (pss_cons (ps_if (pt_cmpR op_eq (pe_ix (r := rIxL K) ix_list (pv 0) pe_int (fun _ _ => rfl)) pe_str (nomark _)) (pss_one (ps_ret (pe_tup (pa_cons pe_str (pa_cons (pe_ix (r := rIxL K) ix_list (pv 2) pe_int (fun _ _ => rfl)) (pa_cons (pe_ix (r := rIxL K) ix_list (pv 2) pe_int (fun _ _ => rfl)) (pa_cons (pe_callTy (r := rTupleOf K) cz_tupleOf (by rfl) T.z_tuple (by decide +kernel) (pa_cons (pe_slice (r := rSlL K) sl_list (pv 2) (po_some pe_int) po_none) pa_nil)) pa_nil))))))) pss_nil) (pss_one (ps_ret (pe_ifExp (pt_cmpR op_eq (pe_callB (r := Z.rLen K) cz_len (by rfl) T.z_len PySem.boot_len (pa_cons (pv 0) pa_nil)) (pe_dget (hu_of hr) (pv 1) (pe_ix (r := rIxL K) ix_list (pv 0) pe_int (fun _ _ => rfl)) (fun _ _ => rfl)) (nomark _)) (pe_op (r := rCatA K) op_catA (pe_tup (pa_cons (pe_ix (r := rIxL K) ix_list (pv 0) pe_int (fun _ _ => rfl)) pa_nil)) (pe_callTy (r := rTupleOf K) cz_tupleOf (by rfl) T.z_tuple (by decide +kernel) (pa_cons (pv 2) pa_nil))) pe_non)))))))), ?_⟩
    refine at_start (ρ' := [some _, none, none, none]) rfl ?_
    walk_at "z0"
    walk_at "z"
    intro D1 n1
    repeat (refine s_pairC ?_; walk_at "z")
    refine s_pairN ⟨upd_same, lawSizes, rfl, by decide, ?_⟩
    rw [mergeK_new (by decide +kernel), List.nil_append]
    have e1 : Ex H (upd (upd H D1 (.dK [])) D1 (.dK lawSizes)) := (Ex.new n1).mut n1
    have hD1 : (upd (upd H D1 (.dK [])) D1 (.dK lawSizes)) D1 = some (.dK lawSizes) := upd_same
    generalize upd (upd H D1 (.dK [])) D1 (.dK lawSizes) = H1 at e1 hD1
    have hL1 := e1.sqL hL
    walk_at "z"
    cases ys with
    | nil =>
      walk_at "z"
      refine k2 (fun ⟨f, e, _⟩ => ?_) H1 e1
      rw [words_ns] at e
      cases e
    | cons wd rest =>
      rw [List.map_cons] at hL1
      rw [List.length_cons] at hfew
      refine ite_neg (by rw [List.length_map, List.length_cons]; omega) ?_
      walk_at "z"
      refine s_tDNotIn ?_
      walk_at "z"
      refine s_ixL hL1 (at0 _ _) ?_
      walk_at "z"
      refine s_dnotinS hD1 ?_
      by_cases h8 : wd ∈ eightW
      case neg =>
        rw [sizes_none h8]
        walk_at "z"
        exact k2 (fun h => h8 (factL_cons h).1) H1 e1
      obtain ⟨_, ks, hsh⟩ := eight_of h8
      rw [sizes_of hsh]
      walk_at "z"
      rename_i q H2 nq e2 hq
      rw [cut_fromA (by decide)] at hq
      replace hq : H2 q = some (.lst (rest.map V.str)) := hq
      have get : ∀ {i : Nat} {x : V}, (rest.map V.str)[i]? = some x → ∃ y, rest[i]? = some y ∧ x = .str y := fun {i x} h => by
        rw [List.getElem?_map] at h
        obtain ⟨z, hz, rfl⟩ := Option.map_eq_some_iff.mp h
        exact ⟨z, hz, rfl⟩
      have hq1 : SqL K H2 q (rest.map V.str) := SqL.of hq
      refine c_list (rest.map V.str) hq1 (fun D H' => H2 D = none ∧ Ex H2 H') (fun D i acc H' => acc = (rest.take i).map numV) (fun D H' n e _ => ⟨⟨n, e⟩, rfl⟩) (fun D H' Iv => Iv.2.sqL hq1) (fun D i acc H3 x hx Iv hD hn r => ?_) (fun D acc H3 Iv hD hn r => ?_)
      · obtain ⟨nD, e3⟩ := Iv
        obtain ⟨y, hyi, rfl⟩ := get hx
        have hi : i < rest.length := (List.getElem?_eq_some_iff.mp hyi).1
        have fin : ∀ (v : V) H4, numV y = v → Ex H3 H4 → ∃ acc, H4 D = some (.lst acc) ∧ acc.length < sizeLine ∧ Cv (fun D H' => H2 D = none ∧ Ex H2 H') (fun D i acc H' => acc = (rest.take i).map numV) D (i + 1) (upd H4 D (.lst (acc ++ [v]))) := fun v H4 ev e4 =>
          c_put (e4 _ _ hD) ⟨hn, by omega⟩ fun H5 f5 _ => ⟨⟨nD, (e3.trans e4).fr2 nD f5⟩, by rw [r, List.take_succ, hyi, List.map_append, ← ev]; rfl⟩
        walk_at "z"
        refine ⟨rfl, ?_⟩
        walk_at "z"
        exact ⟨y, rfl, hys y (List.mem_cons_of_mem _ (List.mem_of_getElem? hyi)), fun n H4 hn en e4 => fin _ H4 (by rw [en]; exact numV_i hn) e4, fun hn H4 e4 => fin _ H4 (numV_n hn) e4⟩
      · obtain ⟨nD, e3⟩ := Iv
        rw [List.length_map, List.take_length] at r
        subst r
        have e13 : Ex H1 H3 := e2.trans e3
        have e03 : Ex H H3 := e1.trans e13
        have hL3 := e13.sqL hL1
        have hD3 := e13 _ _ hD1
        walk_at "z"
        refine s_rInSeq (.inl (SqL.of hD)) rfl (numV_flat rest) ?_
        by_cases hex : ∃ y ∈ rest, ¬ NumW y
        · rw [in_non hex]
          walk_at "z"
          refine k2 (fun h => ?_) H3 e03
          obtain ⟨_, ns, e, hn, _⟩ := factL_cons h
          obtain ⟨y, hy, hy2⟩ := hex
          rw [e] at hy
          obtain ⟨n, hm, rfl⟩ := List.mem_map.mp hy
          exact hy2 ⟨n, hn n hm, rfl⟩
        obtain ⟨ns, rfl, hns⟩ := nums_of (ys := rest) fun y hy => Classical.byContradiction fun h => hex ⟨y, hy, h⟩
        rw [numV_map hns] at hD ⊢
        rw [in_ints]
        rw [List.length_map] at hfew
        have inj : ∀ {ms : List Int}, ns.map iTx = ms.map iTx → (∀ n ∈ ms, NumOk n) → ns = ms := fun e h => iTx_injL hns h e
        walk_at "z"
        refine s_tDGet ?_
        walk_at "z"
        refine s_ixL hL3 (at0 _ _) ?_
        refine s_dgetS hD3 (sizes_of hsh) ?_
        walk_at "z"
        refine ite_dec (fun hlt => ?_) (fun hlt => ?_)
        · walk_at "z"
          refine k2 (fun h => ?_) H3 e03
          obtain ⟨_, ms, e, hm, hc⟩ := factL_cons h
          have := inj e hm
          subst this
          rw [List.length_cons, List.length_map, List.length_map] at hlt
          rcases hc with ⟨ks', h1, h2, h3⟩ | ⟨rfl, h2⟩
          · rw [hsh] at h1
            cases h1
            unfold szW at hlt
            rw [if_neg h3] at hlt
            omega
          · unfold szW at hlt
            rw [if_pos rfl] at hlt
            omega
        rw [List.length_cons, List.length_map, List.length_map] at hlt
        walk_at "z"
        refine s_ixL hL3 (at0 _ _) ?_
        walk_at "z"
        refine ite_dec (fun hb => ?_) (fun hb => ?_)
        · subst hb
          unfold szW at hlt
          rw [if_pos rfl] at hlt
          obtain ⟨a, d, gs, rfl⟩ : ∃ a d gs, ns = a :: d :: gs := by
            match ns with
            | [] => simp at hlt
            | [a] => simp at hlt
            | a :: d :: gs => exact ⟨a, d, gs, rfl⟩
          rw [List.length_cons, List.length_cons] at hfew
          have hw : (("board" : Str) :: (a :: d :: gs).map iTx) = wordsF ⟨"board", [.i a, .i d, .t gs]⟩ := by
            rw [words_ns]
            show ("board" : Str) :: (a :: d :: gs).map iTx = ("board" : Str) :: (a :: d :: (gs ++ [])).map iTx
            rw [List.append_nil]
          have hDD : SqL K H3 D (V.int a :: V.int d :: gs.map V.int) := SqL.of hD
          walk_at "z"
          refine s_ixL hDD (at0 _ _) ?_
          walk_at "z"
          refine s_ixL hDD (atI_nat (xs := V.int a :: V.int d :: gs.map V.int) (j := 1) rfl) ?_
          walk_at "z"
          rename_i u1 H4 nu1 e4 hu1 u2 H5 nu2 e5 hu2 u3 H6 nu3 e6 hu3
          have hc : cutV (V.int a :: V.int d :: gs.map V.int) (some 2) none = gs.map V.int := by
            rw [cut_fromA (by decide)]
            rfl
          refine k1 ⟨"board", [.i a, .i d, .t gs]⟩ (.ref u3) H6 hw (factL_board hns (by omega)) (((e03.trans e4).trans e5).trans e6) ⟨u3, [.int a, .int d, .ref u2], rfl, SqT.of hu3, .cons (.i a) (.cons (.i d) (.cons (.t (e6.sqT (SqT.of ?_))) .nil))⟩
          first | exact hu2 | (rw [hc] at hu2; exact hu2) | (rw [← hc]; exact hu2)
        · walk_at "z"
          refine s_tDGet ?_
          walk_at "z"
          refine s_ixL hL3 (at0 _ _) ?_
          refine s_dgetS hD3 (sizes_of hsh) ?_
          walk_at "z"
          unfold szW
          rw [if_neg hb]
          refine ite_dec (fun hlen => ?_) (fun hlen => ?_)
          · rw [List.length_cons, List.length_map, List.length_map] at hlen
            have hkn : ks.length = ns.length := by omega
            have hw : wd :: ns.map iTx = wordsF ⟨wd, ns.map Arg.i⟩ := by
              rw [words_ns, show nsF ⟨wd, ns.map Arg.i⟩ = ns from flat_i ns]
            have hne : ns ≠ [] := fun e => by
              rcases (shape_eight hsh).2 with ⟨h1, _⟩ | ⟨_, kk, h1, _⟩
              · exact hb h1
              · rw [List.length_eq_zero_iff.mp (show ks.length = 0 from by rw [hkn, e]; rfl)] at h1
                cases h1
            walk_at "z"
            refine s_ixL hL3 (at0 _ _) ?_
            walk_at "z"
            rename_i u1 H4 nu1 e4 hu1 u2 H5 nu2 e5 hu2
            refine s_catA (SqT.of (e5 _ _ hu1)) (SqT.of hu2) (by simp) (by simpa using hne) (sz (by rw [List.length_map, List.length_singleton]; omega)) ?_
            refine s_new fun p H6 np e6 hp => k1 ⟨wd, ns.map Arg.i⟩ (.ref p) H6 hw (factL_flat hsh hb hkn hns (by omega)) (((e03.trans e4).trans e5).trans e6) ⟨p, ns.map V.int, rfl, SqT.of hp, fds_ints ns⟩
          · walk_at "z"
            refine k2 (fun h => ?_) H3 e03
            obtain ⟨_, ms, e, hm, hc⟩ := factL_cons h
            have := inj e hm
            subst this
            rcases hc with ⟨ks', h1, h2, h3⟩ | ⟨h1, _⟩
            · rw [hsh] at h1
              cases h1
              exact hlen (by rw [List.length_cons, List.length_map, List.length_map]; omega)
            · exact hb h1
theorem spl_ne : ∀ (l acc : List Nat), TL.spl [32] 0 acc l ≠ []
  | [], acc => by rw [TL.spl_nil]; simp
  | c :: r, acc => by
    cases h : TL.pre [32] (c :: r) with
    | true => rw [TL.spl_hit h]; simp
    | false => rw [TL.spl_miss h]; exact spl_ne r _
theorem blank_tl : TL.tl (" " : Str) = [32] := by decide +kernel
theorem split_tl (x : Str) : (Txt.split x " ").map TL.tl = TL.spl [32] 0 [] (TL.tl x) := by
  have h := TL.split_spl x " " (by rw [blank_tl]; simp) (TL.kind_ok (by decide +kernel))
  rw [blank_tl] at h
  exact h
/-! texts bent -/
theorem join_count : ∀ (ps : List (List Nat)), (∀ p ∈ ps, 32 ∉ p) → (TL.joinL [32] ps).count 32 ≤ ps.length - 1
  | [], _ => Nat.zero_le _
  | [p], h => by
    show p.count 32 ≤ 0
    rw [List.count_eq_zero.mpr (h p (by simp))]
    exact Nat.le_refl _
  | p :: q :: ps, h => by
    have ih := join_count (q :: ps) fun x hx => h x (List.mem_cons_of_mem _ hx)
    show (p ++ ([32] ++ TL.joinL [32] (q :: ps))).count 32 ≤ _
    rw [List.count_append, List.count_append, List.count_eq_zero.mpr (h p (by simp))]
    rw [List.length_cons] at ih
    rw [List.length_cons, List.length_cons]
    have : List.count 32 [32] = 1 := rfl
    omega
theorem Fr.mut {b W : Addr} {o : HO} {H H1 : Hp} (f : Fr b H H1) (h : H W = none) : Fr b H (upd H1 W o) := fun a u n ha => by
  rw [upd_ne (ne_of_none ha h)]
  exact f a u n ha
theorem erase_map {α β : Type} (f : α → β) : ∀ (l : List α) (i : Nat), (l.map f).eraseIdx i = (l.eraseIdx i).map f
  | [], _ => rfl
  | _ :: _, 0 => rfl
  | x :: l, i + 1 => by
    show f x :: (l.map f).eraseIdx i = f x :: (l.eraseIdx i).map f
    rw [erase_map f l i]
def odds34 : List Str := ["0", "1", "7", "8", "01", "-1", "", "pass", "board", "toll", "lost", "paid", Txt.mul "9" 30, Txt.mul "9" 31]
theorem sc_l_words_bent : FnScope ["_law_bag_here", "_law_row", "_law_words", "_law_odds", "_law_word", "_law_at", "_law_way"] ["_law_bag_here", "_law_row"] (defScope s_l_words_bent) :=
  ⟨rfl, rfl, rfl, by decide +kernel, rfl, by decide +kernel, by decide +kernel⟩

/-! texts of more rows than one: what a bend leaves of their rows -/
theorem preK {k c : Nat} {r : List Nat} : TL.pre [k] (c :: r) = decide (c = k) := by
  unfold TL.pre
  by_cases h : c = k
  · subst h
    show ([c] == [c]) = decide (c = c)
    simp
  · rw [decide_eq_false h]
    show ([c] == [k]) = false
    simp [h]
theorem splK (k : Nat) : ∀ (l acc : List Nat), k ∉ acc → (TL.spl [k] 0 acc l).length = l.count k + 1 ∧ ((TL.spl [k] 0 acc l).map List.length).sum ≤ acc.length + l.length ∧ ∀ p ∈ TL.spl [k] 0 acc l, k ∉ p ∧ p <:+: acc ++ l
  | [], acc, h => by
    rw [TL.spl_nil]
    refine ⟨rfl, by simp, fun p hp => ?_⟩
    rw [List.mem_singleton.mp hp, List.append_nil]
    exact ⟨h, List.infix_refl _⟩
  | c :: r, acc, h => by
    by_cases hc : c = k
    · subst hc
      rw [TL.spl_hit (by rw [preK]; exact decide_eq_true rfl)]
      obtain ⟨h1, h0, h2⟩ := splK c r [] (by simp)
      have e0 : ([c] : List Nat).length - 1 = 0 := rfl
      rw [e0]
      refine ⟨?_, ?_, fun p hp => ?_⟩
      · rw [List.length_cons, h1, List.count_cons_self]
      · rw [List.map_cons, List.sum_cons, List.length_cons]
        rw [List.length_nil] at h0
        omega
      · rcases List.mem_cons.mp hp with rfl | hp
        · exact ⟨h, List.infix_append_left⟩
        · obtain ⟨a, b⟩ := h2 p hp
          refine ⟨a, b.trans ?_⟩
          rw [List.nil_append]
          exact ⟨acc ++ [c], [], by simp⟩
    · rw [TL.spl_miss (by rw [preK, decide_eq_false hc])]
      obtain ⟨h1, h0, h2⟩ := splK k r (acc ++ [c]) (by simp [h]; exact fun e => hc e.symm)
      refine ⟨?_, ?_, fun p hp => ?_⟩
      · rw [h1, List.count_cons_of_ne (by exact hc)]
      · rw [List.length_append, List.length_singleton] at h0
        rw [List.length_cons]
        omega
      · obtain ⟨a, b⟩ := h2 p hp
        rw [List.append_assoc] at b
        exact ⟨a, b⟩
theorem infix_app {s a b : List Nat} (h : s <:+: a ++ b) : s <:+: a ∨ s <:+: b ∨ ∃ s1 s2, s = s1 ++ s2 ∧ s1 <:+ a ∧ s2 <+: b := by
  obtain ⟨t, u, e⟩ := h
  rcases List.append_eq_append_iff.mp e with ⟨x, h1, _⟩ | ⟨x, h1, h2⟩
  · exact .inl ⟨t, x, h1.symm⟩
  · rcases List.append_eq_append_iff.mp h1 with ⟨y, h3, h4⟩ | ⟨y, h3, h4⟩
    · exact .inr (.inr ⟨y, x, h4, ⟨t, h3.symm⟩, ⟨u, h2.symm⟩⟩)
    · refine .inr (.inl ⟨y, u, ?_⟩)
      rw [h2, h4]
/-- what stands between two line feeds has few blanks, few signs -/
def SegL (r m : Nat) (l : List Nat) : Prop := ∀ s, s <:+: l → 10 ∉ s → s.count 32 ≤ r ∧ s.length ≤ m
theorem seg_infix {r m : Nat} {l l' : List Nat} (h : SegL r m l) (i : l' <:+: l) : SegL r m l' := fun s hs hn => h s (hs.trans i) hn
theorem seg_mono {r m r' m' : Nat} {l : List Nat} (h : SegL r m l) (a : r ≤ r') (b : m ≤ m') : SegL r' m' l := fun s hs hn => ⟨Nat.le_trans (h s hs hn).1 a, Nat.le_trans (h s hs hn).2 b⟩
theorem seg_app {r m r' m' : Nat} {a b : List Nat} (ha : SegL r m a) (hb : SegL r' m' b) : SegL (r + r') (m + m') (a ++ b) := fun s hs hn => by
  rcases infix_app hs with h | h | ⟨s1, s2, rfl, h1, h2⟩
  · obtain ⟨x, y⟩ := ha s h hn
    exact ⟨by omega, by omega⟩
  · obtain ⟨x, y⟩ := hb s h hn
    exact ⟨by omega, by omega⟩
  · rw [List.mem_append, not_or] at hn
    obtain ⟨x, y⟩ := ha s1 h1.isInfix hn.1
    obtain ⟨x', y'⟩ := hb s2 h2.isInfix hn.2
    rw [List.count_append, List.length_append]
    exact ⟨by omega, by omega⟩
theorem seg_nl {r m : Nat} {a b : List Nat} (ha : SegL r m a) (hb : SegL r m b) : SegL r m (a ++ ([10] ++ b)) := fun s hs hn => by
  have pre0 : ∀ {s2 : List Nat}, 10 ∉ s2 → s2 <+: [10] ++ b → s2 = [] := fun {s2} h1 h2 => by
    cases s2 with
    | nil => rfl
    | cons c s2 =>
      obtain ⟨u, e⟩ := h2
      cases e
      exact absurd List.mem_cons_self h1
  have cross : s <:+: [10] ++ b → s.count 32 ≤ r ∧ s.length ≤ m := fun h => by
    rcases infix_app h with h | h | ⟨s1, s2, rfl, h1, h2⟩
    · have : s = [] := by
        cases s with
        | nil => rfl
        | cons c s2 =>
          have := h.sublist.subset (List.mem_cons_self (a := c) (l := s2))
          rw [List.mem_singleton] at this
          rw [this] at hn
          exact absurd List.mem_cons_self hn
      rw [this]
      exact ⟨Nat.zero_le _, Nat.zero_le _⟩
    · exact hb s h hn
    · rw [List.mem_append, not_or] at hn
      have : s1 = [] := by
        cases s1 with
        | nil => rfl
        | cons c s1 =>
          have := h1.isInfix.sublist.subset (List.mem_cons_self (a := c) (l := s1))
          rw [List.mem_singleton] at this
          rw [this] at hn
          exact absurd List.mem_cons_self hn.1
      rw [this, List.nil_append]
      exact hb s2 h2.isInfix hn.2
  rcases infix_app hs with h | h | ⟨s1, s2, rfl, h1, h2⟩
  · exact ha s h hn
  · exact cross h
  · rw [List.mem_append, not_or] at hn
    rw [pre0 hn.2 h2, List.append_nil]
    exact ha s1 h1.isInfix hn.1
theorem seg_join {r m : Nat} : ∀ (ps : List (List Nat)), (∀ p ∈ ps, SegL r m p) → SegL r m (TL.joinL [10] ps)
  | [], _ => fun s hs hn => by
    have : s = [] := by
      obtain ⟨t, u, e⟩ := hs
      replace e : t ++ s ++ u = [] := e
      simp at e
      exact e.2.1
    rw [this]
    exact ⟨Nat.zero_le _, Nat.zero_le _⟩
  | [p], h => h p (by simp)
  | p :: q :: ps, h => seg_nl (h p (by simp)) (seg_join (q :: ps) fun x hx => h x (List.mem_cons_of_mem _ hx))
theorem seg_of {r m : Nat} {l : List Nat} (a : l.count 32 ≤ r) (b : l.length ≤ m) : SegL r m l := fun s hs _ => ⟨Nat.le_trans (hs.sublist.count_le 32) a, Nat.le_trans hs.length_le b⟩
theorem join_nls : ∀ (ps : List (List Nat)), (∀ p ∈ ps, 10 ∉ p) → (TL.joinL [10] ps).count 10 ≤ ps.length - 1
  | [], _ => Nat.zero_le _
  | [p], h => by
    show p.count 10 ≤ 0
    rw [List.count_eq_zero.mpr (h p (by simp))]
    exact Nat.le_refl _
  | p :: q :: ps, h => by
    have ih := join_nls (q :: ps) fun x hx => h x (List.mem_cons_of_mem _ hx)
    show (p ++ ([10] ++ TL.joinL [10] (q :: ps))).count 10 ≤ _
    rw [List.count_append, List.count_append, List.count_eq_zero.mpr (h p (by simp))]
    rw [List.length_cons] at ih
    rw [List.length_cons, List.length_cons]
    have : List.count 10 [10] = 1 := rfl
    omega
theorem seg_len {r m : Nat} : ∀ (n : Nat) (l : List Nat), SegL r m l → l.count 10 ≤ n → l.length ≤ (n + 1) * (m + 1)
  | n, l, h, hc => by
    by_cases h10 : 10 ∈ l
    · obtain ⟨a, b, rfl, ha⟩ := List.eq_append_cons_of_mem h10
      rw [List.count_append, List.count_cons_self] at hc
      cases n with
      | zero => omega
      | succ n =>
        have h1 := (h a List.infix_append_left ha).2
        have h2 := seg_len n b (seg_infix h ⟨a ++ [10], [], by simp⟩) (by omega)
        rw [List.length_append, List.length_cons, Nat.add_mul (n + 1) 1 (m + 1)]
        omega
    · have h1 := (h l (List.infix_refl _) h10).2
      have : 1 * (m + 1) ≤ (n + 1) * (m + 1) := Nat.mul_le_mul_right _ (by omega)
      omega
/-- a text of at most n line feeds, each row of at most r blanks, m signs -/
structure SegT (r m n : Nat) (x : Str) : Prop where
  seg : SegL r m (TL.tl x)
  nls : (TL.tl x).count 10 ≤ n
theorem SegT.len {r m n : Nat} {x : Str} (h : SegT r m n x) : x.length ≤ (n + 1) * (m + 1) := by
  rw [TL.len_tl]
  exact seg_len n _ h.seg h.nls
/-- one row -/
structure RowB (r m : Nat) (y : Str) : Prop where
  row : 10 ∉ TL.tl y
  few : (TL.tl y).count 32 ≤ r
  len : y.length ≤ m
theorem nl_tl : TL.tl ("\n" : Str) = [10] := by decide +kernel
theorem split_nl (x : Str) : (Txt.split x "\n").map TL.tl = TL.spl [10] 0 [] (TL.tl x) := by
  have h := TL.split_spl x "\n" (by rw [nl_tl]; simp) (TL.kind_ok (by decide +kernel))
  rw [nl_tl] at h
  exact h
theorem split_rows {r m n : Nat} {x : Str} (h : SegT r m n x) : (Txt.split x "\n").length = (TL.tl x).count 10 + 1 ∧ ∀ y ∈ Txt.split x "\n", RowB r m y := by
  have e := split_nl x
  obtain ⟨h1, _, h2⟩ := splK 10 (TL.tl x) [] (by simp)
  refine ⟨?_, fun y hy => ?_⟩
  · have := congrArg List.length e
    rw [h1, List.length_map] at this
    exact this
  · obtain ⟨a, b⟩ := h2 (TL.tl y) (by rw [← e]; exact List.mem_map.mpr ⟨y, hy, rfl⟩)
    rw [List.nil_append] at b
    obtain ⟨c, d⟩ := h.seg _ b a
    exact ⟨a, c, by rw [TL.len_tl]; exact d⟩
theorem join_seg {r m n : Nat} {rows : List Str} (h : ∀ y ∈ rows, RowB r m y) (hl : rows.length ≤ n + 1) : SegT r m n (Txt.join "\n" rows) := by
  have e : TL.tl (Txt.join "\n" rows) = TL.joinL [10] (rows.map TL.tl) := by rw [TL.join_eq, TL.tl_join, nl_tl]
  refine ⟨?_, ?_⟩
  · rw [e]
    refine seg_join _ fun p hp => ?_
    obtain ⟨y, hy, rfl⟩ := List.mem_map.mp hp
    exact seg_of (h y hy).few (by rw [← TL.len_tl]; exact (h y hy).len)
  · rw [e]
    have := join_nls (rows.map TL.tl) fun p hp => by
      obtain ⟨y, hy, rfl⟩ := List.mem_map.mp hp
      exact (h y hy).row
    rw [List.length_map] at this
    omega
/-- the words of a row -/
theorem row_words {r m : Nat} {y : Str} (h : RowB r m y) : ∃ z rest, Txt.split y " " = z :: rest ∧ rest.length ≤ r ∧ ((z :: rest).map (·.length)).sum ≤ m ∧ ∀ w ∈ z :: rest, 32 ∉ TL.tl w ∧ 10 ∉ TL.tl w ∧ w.length ≤ m := by
  have e := split_tl y
  obtain ⟨h1, h0, h2⟩ := splK 32 (TL.tl y) [] (by simp)
  have hl := h.len
  rw [TL.len_tl] at hl
  cases hs : Txt.split y " " with
  | nil =>
    rw [hs] at e
    exact absurd e.symm (spl_ne _ _)
  | cons z rest =>
    rw [hs] at e
    refine ⟨z, rest, rfl, ?_, ?_, fun w hw => ?_⟩
    · have := congrArg List.length e
      rw [h1, List.length_map, List.length_cons] at this
      have := h.few
      omega
    · rw [← e, List.map_map, List.length_nil, Nat.zero_add] at h0
      have e2 : (z :: rest).map (List.length ∘ TL.tl) = (z :: rest).map (·.length) := List.map_congr_left fun x _ => (TL.len_tl x).symm
      rw [e2] at h0
      omega
    · obtain ⟨a, b⟩ := h2 (TL.tl w) (by rw [← e]; exact List.mem_map.mpr ⟨w, hw, rfl⟩)
      rw [List.nil_append] at b
      refine ⟨a, fun hm => h.row (b.sublist.subset hm), ?_⟩
      rw [TL.len_tl]
      exact Nat.le_trans b.length_le hl
/-- words, joined by blanks again -/
theorem join_row {r m : Nat} {ws : List Str} (h : ∀ w ∈ ws, 32 ∉ TL.tl w ∧ 10 ∉ TL.tl w) (hl : ws.length ≤ r + 1) (hm : (ws.map (·.length)).sum + ws.length ≤ m) : RowB r m (Txt.join " " ws) := by
  have e : TL.tl (Txt.join " " ws) = TL.joinL [32] (ws.map TL.tl) := by rw [TL.join_eq, TL.tl_join, blank_tl]
  refine ⟨fun hc => ?_, ?_, ?_⟩
  · rw [e] at hc
    have go : ∀ (ps : List (List Nat)), (∀ p ∈ ps, 10 ∉ p) → 10 ∉ TL.joinL [32] ps := by
      intro ps
      induction ps with
      | nil => intro _ h; cases h
      | cons p ps ih =>
        intro h hm
        cases ps with
        | nil => exact h p (by simp) hm
        | cons q ps =>
          replace hm : 10 ∈ p ++ ([32] ++ TL.joinL [32] (q :: ps)) := hm
          simp only [List.mem_append, List.mem_singleton] at hm
          rcases hm with hm | hm | hm
          · exact h p (by simp) hm
          · cases hm
          · exact ih (fun x hx => h x (List.mem_cons_of_mem _ hx)) hm
    exact go _ (fun p hp => by
      obtain ⟨y, hy, rfl⟩ := List.mem_map.mp hp
      exact (h y hy).2) hc
  · rw [e]
    have := join_count (ws.map TL.tl) fun p hp => by
      obtain ⟨y, hy, rfl⟩ := List.mem_map.mp hp
      exact (h y hy).1
    rw [List.length_map] at this
    omega
  · rw [TL.len_tl, e]
    have go : ∀ ps : List (List Nat), (TL.joinL [32] ps).length ≤ (ps.map List.length).sum + ps.length := by
      intro ps
      induction ps with
      | nil => exact Nat.zero_le _
      | cons p ps ih =>
        cases ps with
        | nil =>
          show p.length ≤ p.length + 0 + 1
          omega
        | cons q ps =>
          show (p ++ ([32] ++ TL.joinL [32] (q :: ps))).length ≤ _
          rw [List.length_append, List.length_append, List.length_singleton, List.map_cons, List.sum_cons, List.length_cons (a := p)]
          omega
    have := go (ws.map TL.tl)
    rw [List.map_map, List.length_map] at this
    have e2 : ws.map (List.length ∘ TL.tl) = ws.map (·.length) := List.map_congr_left fun x _ => (TL.len_tl x).symm
    rw [e2] at this
    omega
theorem sum_set (ws : List Str) (i : Nat) (y : Str) : ((ws.set i y).map (·.length)).sum ≤ (ws.map (·.length)).sum + y.length := by
  induction ws generalizing i with
  | nil => exact Nat.zero_le _
  | cons z ws ih =>
    cases i with
    | zero =>
      show y.length + (ws.map (·.length)).sum ≤ z.length + (ws.map (·.length)).sum + y.length
      omega
    | succ i =>
      have := ih i
      show z.length + ((ws.set i y).map (·.length)).sum ≤ z.length + (ws.map (·.length)).sum + y.length
      omega
theorem sum_erase (ws : List Str) (i : Nat) : ((ws.eraseIdx i).map (·.length)).sum ≤ (ws.map (·.length)).sum := by
  induction ws generalizing i with
  | nil => exact Nat.zero_le _
  | cons z ws ih =>
    cases i with
    | zero =>
      show (ws.map (·.length)).sum ≤ z.length + (ws.map (·.length)).sum
      omega
    | succ i =>
      have := ih i
      show z.length + ((ws.eraseIdx i).map (·.length)).sum ≤ z.length + (ws.map (·.length)).sum
      omega
theorem sum_ins (ws : List Str) (i : Nat) (y : Str) : (((ws.take i) ++ [y] ++ ws.drop i).map (·.length)).sum = (ws.map (·.length)).sum + y.length := by
  have e : (ws.map (·.length)).sum = ((ws.take i).map (·.length)).sum + ((ws.drop i).map (·.length)).sum := by
    rw [← List.sum_append, ← List.map_append, List.take_append_drop]
  rw [List.map_append, List.map_append, List.sum_append, List.sum_append, e]
  show _ + (y.length + 0) + _ = _
  omega

/-! a row bent -/
def spBentW31 (K : PySem.W.Frag) : Sp := fun vs H Q _ => ∃ (b c : Addr) (row : Str) (r m : Nat), vs = [.ref b, .str row] ∧ Bag H b c ∧ RowB r m row ∧ r ≤ 30 ∧ m ≤ 2000 ∧ ∀ z H', RowB (r + 1) (3 * m + 200) z → Fr b H H' → Bag H' b c → Q (.str z) H'
theorem odds31 : ∀ y ∈ odds34, (32 ∉ TL.tl y ∧ 10 ∉ TL.tl y) ∧ y.length ≤ 31 := by
  intro y hy
  simp only [odds34, List.mem_cons, List.not_mem_nil, or_false] at hy
  rcases hy with rfl | rfl | rfl | rfl | rfl | rfl | rfl | rfl | rfl | rfl | rfl | rfl | rfl | rfl <;> exact ⟨⟨by decide +kernel, by decide +kernel⟩, by decide +kernel⟩
/-- words of a row that is bent -/
def WordsM (m : Nat) (ws : List Str) : Prop := ∀ y ∈ ws, (32 ∉ TL.tl y ∧ 10 ∉ TL.tl y) ∧ y.length ≤ m + 31
theorem ok_l_words_bent (T : Tx P K mg w) : FnOk P w K mg base CX0 2 T.f_l_words_bent T.d_l_words_bent ["_law_bag_here", "_law_row"] (spBentW31 K) := by
  refine T.F_l_words_bent.ok sc_l_words_bent (fun vs H Q E h => ?_) (fun cdv A outer s H vs Q E hr h => ?_)
  · obtain ⟨b, c, row, r, m, rfl, _⟩ := h
    rfl
  · obtain ⟨b, c, row, r, m, rfl, B, hb, hr24, hm2, k⟩ := h
    refine ⟨_, (pss_cons (ps_set (i := 2) sc_l_words_bent.nd rfl (Or.inl rfl) (pe_m1 PySem.F.slot_str_split PySem.F.type_str_split mz_split (pv 1) pe_str)) (pss_cons (ps_set (i := 3) sc_l_words_bent.nd rfl (Or.inl rfl) (pe_lst (pa_cons pe_str (pa_cons pe_str (pa_cons pe_str (pa_cons pe_str (pa_cons pe_str (pa_cons pe_str (pa_cons pe_str (pa_cons pe_str (pa_cons pe_str (pa_cons pe_str (pa_cons pe_str (pa_cons pe_str (pa_cons (pe_op oz_mulS pe_str pe_int) (pa_cons (pe_op oz_mulS pe_str pe_int) pa_nil)))))))))))))))) (pss_cons (ps_set (i := 4) sc_l_words_bent.nd rfl (Or.inl rfl) (pe_ix (r := rIxL K) ix_list (pe_op op_cat (pv 3) (pv 2)) (pe_call (ok_l_pull T) (hr.mono (by decide)) rfl T.g_l_pull T.F_l_pull.kp T.b_l_pull .nil pass0 (pa_cons (pv 0) (pa_cons (pe_op op_add (pe_callB (r := Z.rLen K) cz_len (by rfl) T.z_len PySem.boot_len (pa_cons (pv 3) pa_nil)) (pe_callB (r := Z.rLen K) cz_len (by rfl) T.z_len PySem.boot_len (pa_cons (pv 2) pa_nil))) pa_nil))) (fun _ _ => rfl))) (pss_cons (ps_set (i := 5) sc_l_words_bent.nd rfl (Or.inl rfl) (pe_call (ok_l_pull T) (hr.mono (by decide)) rfl T.g_l_pull T.F_l_pull.kp T.b_l_pull .nil pass0 (pa_cons (pv 0) (pa_cons (pe_callB (r := Z.rLen K) cz_len (by rfl) T.z_len PySem.boot_len (pa_cons (pv 2) pa_nil)) pa_nil)))) (pss_cons (ps_set (i := 6) sc_l_words_bent.nd rfl (Or.inl rfl) (pe_call (ok_l_pull T) (hr.mono (by decide)) rfl T.g_l_pull T.F_l_pull.kp T.b_l_pull .nil pass0 (pa_cons (pv 0) (pa_cons pe_int pa_nil)))) (pss_cons (ps_if (pt_cmpR op_eq (pv 6) pe_int (nomark _)) (pss_one (ps_asg (pv 4) (pg_sub (pv 2) (pv 5) set_list))) pss_nil) (pss_cons (ps_if (pt_cmpR op_eq (pv 6) pe_int (nomark _)) (pss_one (ps_expr (pe_bm PySem.F.plainAttrs_list PySem.F.slot_list_insert PySem.F.type_list_insert mt_insert (pv 2) (pa_cons (pv 5) (pa_cons (pv 4) pa_nil))))) pss_nil) (pss_cons (ps_if (pt_cmpR op_eq (pv 6) pe_int (nomark _)) (pss_one (ps_expr (pe_bm PySem.F.plainAttrs_list PySem.F.slot_list_pop PySem.F.type_list_pop mt_popAt (pv 2) (pa_cons (pv 5) pa_nil)))) pss_nil) (pss_cons (ps_if (pt_cmpR op_eq (pv 6) pe_int (nomark _)) (pss_one (ps_asg (pe_tup (pa_cons (pe_ix (r := rIxL K) ix_list (pv 2) pe_int (fun _ _ => rfl)) (pa_cons (pe_ix (r := rIxL K) ix_list (pv 2) (pv 5) (fun _ _ => rfl)) pa_nil))) (pg_tup (by rfl) (pgs_cons (pg_sub (pv 2) (pv 5) set_list) (pgs_cons (pg_sub (pv 2) pe_int set_list) pgs_nil))))) pss_nil) (pss_one (ps_ret (pe_m1 (r := rJoin K) PySem.F.slot_str_join PySem.F.type_str_join mz_join pe_str (pv 2))))))))))))), ?_⟩
    refine at_start (ρ' := [some _, some _, none, none, none, none, none]) rfl ?_
    obtain ⟨z0, r0, hsp, hfew, hsum0, hws0⟩ := row_words hb
    have hlen2 := hb.len
    have hws : WordsM m (z0 :: r0) := fun y hy => ⟨⟨(hws0 y hy).1, (hws0 y hy).2.1⟩, by have := (hws0 y hy).2.2; omega⟩
    walk_at "z0"
    walk_at "z"
    refine s_splitS (by decide +kernel) (sz (by omega)) hsp ?_
    refine s_new fun L H1 nL e1 hL => ?_
    have B1 := B.ext e1
    walk_at "z"
    refine s_rMulS (by unfold MulOk; decide +kernel) ?_
    walk_at "z"
    refine s_rMulS (by unfold MulOk; decide +kernel) ?_
    walk_at "z"
    rename_i O H2 nO e2 hO
    replace hO : H2 O = some (.lst (odds34.map V.str)) := hO
    have hL2 := e2 _ _ hL
    have B2 := B1.ext e2
    refine ⟨O, L, _, _, rfl, rfl, hO, hL2, sz (by rw [List.length_map, List.length_map, List.length_cons]; show 14 + _ ≤ 100000; omega), ?_⟩
    intro A nA
    have e3 : Ex H2 (upd H2 A (.lst (odds34.map V.str ++ (z0 :: r0).map V.str))) := Ex.new nA
    have hA : (upd H2 A (.lst (odds34.map V.str ++ (z0 :: r0).map V.str))) A = some (.lst (odds34.map V.str ++ (z0 :: r0).map V.str)) := upd_same
    generalize upd H2 A (.lst (odds34.map V.str ++ (z0 :: r0).map V.str)) = H3 at e3 hA ⊢
    rw [← List.map_append] at hA
    have B3 := B2.ext e3
    have hL3 := e3 _ _ hL2
    have e03 := (e1.trans e2).trans e3
    have lenA : ((odds34 ++ z0 :: r0).map V.str).length = 14 + (r0.length + 1) := by rw [List.length_map, List.length_append, List.length_cons]; rfl
    have lenL : ((z0 :: r0).map V.str).length = r0.length + 1 := by rw [List.length_map, List.length_cons]
    have lenO : (odds34.map V.str).length = 14 := rfl
    have hO3 := e3 _ _ hO
    clear hO nO
    walk_at "z"
    rename_i v H4 v0 v1 B4 f4
    obtain ⟨_, hb3⟩ := B3.getb
    have nLb : L ≠ b := B.neb nL
    have nLc : L ≠ c := B.nec nL
    have nAb : A ≠ b := B2.neb nA
    refine s_ixP (fun x => ∃ y, x = .str y ∧ (32 ∉ TL.tl y ∧ 10 ∉ TL.tl y) ∧ y.length ≤ m + 31) (SqL.of (f4 _ _ nAb hA)) ⟨v0, by rw [lenA]; rw [lenO, lenL] at v1; omega⟩ (fun x hx => ?_) fun x hx => ?_
    · obtain ⟨y, hy, rfl⟩ := List.mem_map.mp hx
      rcases List.mem_append.mp hy with h | h
      · exact ⟨y, rfl, (odds31 y h).1, by have := (odds31 y h).2; omega⟩
      · exact ⟨y, rfl, hws y h⟩
    obtain ⟨wd, rfl, hwB⟩ := hx
    have hL4 := f4 _ _ nLb hL3
    walk_at "z"
    rename_i at_ H5 a0 a1 B5 f5 way H6 w0 w1 B6 f6
    have f06 : Fr b H H6 := (e03.fr b).trans (f4.trans (f5.trans f6))
    have hL6 := f6 _ _ nLb (f5 _ _ nLb hL4)
    clear f4 f5 f6 B5 B4 B3 B2 B1 hO3 hA hL hL2 hL3 hL4 e1 e2 e3 e03
    obtain ⟨i, rfl⟩ : ∃ i : Nat, at_ = (i : Nat) := ⟨at_.toNat, by omega⟩
    rw [lenL] at a1
    have hi : i < r0.length + 1 := by omega
    have fin : ∀ (ws : List Str) H7, WordsM m ws → ws.length ≤ r + 2 → (ws.map (·.length)).sum ≤ 3 * m + 100 → Fr L H6 H7 → H7 L = some (.lst (ws.map V.str)) → rJoin K (V.str " ") [V.ref L] H7 Q := fun ws H7 h1 h2 hsum f7 h3 => by
      refine s_rJoin ws (.inl (SqL.of h3)) rfl (by rw [show (Str.ofString " ").length = 1 from by decide +kernel]; omega) ?_
      exact k _ H7 (join_row (fun w hw => (h1 w hw).1) (by omega) (by omega)) (fun a o n h => f7 _ _ (fun z => by rw [z, nL] at h; cases h) (f06 a o n h)) (B6.frs nLb nLc f7)
    have hlw : (z0 :: r0).length ≤ r + 1 := by rw [List.length_cons]; omega
    have getw : ∀ {j : Nat}, j < r0.length + 1 → ∃ y, (z0 :: r0)[j]? = some y ∧ (32 ∉ TL.tl y ∧ 10 ∉ TL.tl y) ∧ y.length ≤ m + 31 := fun {j} hj => ⟨_, List.getElem?_eq_getElem (by rw [List.length_cons]; exact hj), hws _ (List.getElem_mem _)⟩
    have setB : ∀ {ws : List Str} {j : Nat} {y : Str}, WordsM m ws → ((32 ∉ TL.tl y ∧ 10 ∉ TL.tl y) ∧ y.length ≤ m + 31) → WordsM m (ws.set j y) := fun h1 h2 x hx => by
      rcases List.mem_or_eq_of_mem_set hx with h | h
      · exact h1 x h
      · rw [h]
        exact h2
    have mg : ∀ {j : Nat} {y : Str}, (z0 :: r0)[j]? = some y → ((z0 :: r0).map V.str)[j]? = some (.str y) := fun h => by rw [List.getElem?_map, h]; rfl
    rcases (by omega : way = 0 ∨ way = 1 ∨ way = 2 ∨ way = 3) with rfl | rfl | rfl | rfl
    · walk_at "z"
      refine s_setN hL6 (m := i) (by rw [lenL, ixN]; simp; omega) (((z0 :: r0).set i wd).map V.str) (by rw [List.map_set]) fun H7 f7 h7 => ?_
      walk_at "z"
      exact fin _ H7 (setB hws hwB) (by rw [List.length_set]; omega) (by have h1 := sum_set (z0 :: r0) i wd; have h2 := hwB.2; omega) f7 h7
    · walk_at "z"
      refine ⟨L, _, (i : Nat), .str wd, rfl, rfl, hL6, Nat.lt_of_lt_of_le (m := 100000) (by rw [lenL]; omega) (sz (Nat.le_refl _)), by omega, by omega, ?_⟩
      have f7 : Fr L H6 (upd H6 L (.lst (List.take ((i : Nat) : Int).toNat ((z0 :: r0).map V.str) ++ [V.str wd] ++ List.drop ((i : Nat) : Int).toNat ((z0 :: r0).map V.str)))) := Fr.upd
      have h7 : (upd H6 L (.lst (List.take ((i : Nat) : Int).toNat ((z0 :: r0).map V.str) ++ [V.str wd] ++ List.drop ((i : Nat) : Int).toNat ((z0 :: r0).map V.str)))) L = some (.lst ((((z0 :: r0).take i) ++ [wd] ++ (z0 :: r0).drop i).map V.str)) := by
        rw [upd_same, List.map_append, List.map_append, List.map_take, List.map_drop]
        rfl
      generalize upd H6 L _ = H7 at f7 h7 ⊢
      walk_at "z"
      refine fin _ H7 (fun x hx => ?_) ?_ ?_ f7 h7
      · simp only [List.mem_append, List.mem_singleton] at hx
        rcases hx with (h | h) | h
        · exact hws x (List.mem_of_mem_take h)
        · rw [h]
          exact hwB
        · exact hws x (List.mem_of_mem_drop h)
      · rw [List.length_append, List.length_append, List.length_take, List.length_drop, List.length_singleton]
        omega
      · rw [sum_ins]
        have h2 := hwB.2
        omega
    · obtain ⟨y, hy, _⟩ := getw hi
      walk_at "z"
      refine ⟨L, _, (i : Nat), i, .str y, rfl, rfl, hL6, by omega, by omega, (ixN_seq (j := i) (by rw [lenL, ixN]; simp; omega)).1, mg hy, ?_⟩
      have f7 : Fr L H6 (upd H6 L (.lst (((z0 :: r0).map V.str).eraseIdx i))) := Fr.upd
      have h7 : (upd H6 L (.lst (((z0 :: r0).map V.str).eraseIdx i))) L = some (.lst (((z0 :: r0).eraseIdx i).map V.str)) := by
        rw [upd_same, erase_map]
      generalize upd H6 L _ = H7 at f7 h7 ⊢
      walk_at "z"
      exact fin _ H7 (fun x hx => hws x (List.mem_of_mem_eraseIdx hx)) (by have := List.length_eraseIdx_le (z0 :: r0) i; omega) (by have := sum_erase (z0 :: r0) i; omega) f7 h7
    · obtain ⟨y, hy, hyB⟩ := getw hi
      walk_at "z"
      refine s_ixL (SqL.of hL6) (at0 _ _) ?_
      walk_at "z"
      refine s_ixL (SqL.of hL6) (atI_nat (mg hy)) ?_
      walk_at "z"
      rename_i tp H7 ntp e7 htp
      refine s_setN (e7 _ _ hL6) (m := i) (by rw [lenL, ixN]; simp; omega) (((z0 :: r0).set i z0).map V.str) (by rw [List.map_set]) fun H8 f8 h8 => ?_
      walk_at "z"
      refine s_setN h8 (m := 0) (by rw [List.length_map, List.length_set, List.length_cons, ixN]; simp) ((((z0 :: r0).set i z0).set 0 y).map V.str) (by simp only [List.map_set]) fun H9 f9 h9 => ?_
      walk_at "z"
      exact fin _ H9 (setB (setB hws (hws z0 (by simp))) hyB) (by rw [List.length_set, List.length_set]; omega) (by have h1 := sum_set ((z0 :: r0).set i z0) 0 y; have h2 := sum_set (z0 :: r0) i z0; have h3 := hyB.2; have h4 := (hws z0 (by simp)).2; have h5 := (hws0 z0 (by simp)).2.2; omega) ((e7.fr L).trans (f8.trans f9)) h9

/-! a sign, a text bent -/
def spSign : Sp := fun vs H Q _ => ∃ (b c : Addr), vs = [.ref b] ∧ Bag H b c ∧ ∀ (n : Nat) H', Fr b H H' → Bag H' b c → Q (.str ⟨#[n]⟩) H'
theorem sc_l_sign : FnScope ["_law_bag_here", "_law_signs"] ["_law_bag_here"] (defScope s_l_sign) :=
  ⟨rfl, rfl, rfl, by decide +kernel, rfl, by decide +kernel, by decide +kernel⟩
theorem ok_l_sign (T : Tx P K mg w) : FnOk P w K mg base CX0 2 T.f_l_sign T.d_l_sign ["_law_bag_here"] spSign := by
  refine T.F_l_sign.ok sc_l_sign (fun vs H Q E h => ?_) (fun cdv A outer s H vs Q E hr h => ?_)
  · obtain ⟨b, c, rfl, _⟩ := h
    rfl
  · obtain ⟨b, c, rfl, B, k⟩ := h
    refine ⟨_, (pss_cons (ps_set (i := 1) sc_l_sign.nd rfl (Or.inl rfl) (pe_op oz_addStr pe_str pe_str)) (pss_one (ps_ret (pe_ix ix_str (pv 1) (pe_call (ok_l_pull T) (hr.mono (by decide)) rfl T.g_l_pull T.F_l_pull.kp T.b_l_pull .nil pass0 (pa_cons (pv 0) (pa_cons (pe_callB cz_lenStr (by rfl) T.z_len PySem.boot_len (pa_cons (pv 1) pa_nil)) pa_nil))) (fun _ _ => rfl))))), ?_⟩
    refine at_start (ρ' := [some _, none]) rfl ?_
    walk_at "z0"
    walk_at "z"
    refine ⟨_, _, rfl, rfl, sz (by decide +kernel), ?_⟩
    generalize hz : (Str.ofString " 0123456789- 012.!\"#$&'()*+,/:;<=>?@AZ[]^_abcdefghijklmnopqrstuvwxyz{|}~" ++ Str.ofString "\n") = zz
    have hl : 1 ≤ zz.length ∧ zz.length ≤ 100 := by
      rw [← hz]
      decide +kernel
    clear hz
    walk_at "z"
    refine s_rLenStr (sz (by omega)) ?_
    walk_at "z"
    rename_i v H1 v0 v1 B1 f1
    obtain ⟨n, hn⟩ := at_ex zz.cps.toList v0 (by rw [Array.length_toList]; exact v1)
    exact s_ixS (sz (by omega)) hn (k n H1 f1 B1)

/-! a text bent -/
def spBentT31 (K : PySem.W.Frag) : Sp := fun vs H Q _ => ∃ (b c : Addr) (x : Str) (r m n : Nat), vs = [.ref b, .str x] ∧ Bag H b c ∧ SegT r m n x ∧ r ≤ 30 ∧ m ≤ 2000 ∧ n ≤ 30 ∧ ∀ z H', SegT (2 * r + 1) (3 * m + 200) (2 * n + 1) z → Fr b H H' → Bag H' b c → Q (.str z) H'
theorem cut_infix {x : Str} {lo hi : Option Int} : TL.tl (cutS x lo hi) <:+: TL.tl x := by
  have e : TL.tl (cutS x lo hi) = ((TL.tl x).drop (HT.sIx x.length 0 lo)).take (HT.sIx x.length x.length hi - HT.sIx x.length 0 lo) := rfl
  rw [e]
  exact (List.take_prefix _ _).isInfix.trans (List.drop_suffix _ _).isInfix
theorem seg_cut {r m n : Nat} {x : Str} (h : SegT r m n x) (lo hi : Option Int) : SegT r m n (cutS x lo hi) :=
  ⟨seg_infix h.seg cut_infix, Nat.le_trans (cut_infix.sublist.count_le 10) h.nls⟩
theorem segT_app {r m n r' m' n' : Nat} {x y : Str} (h : SegT r m n x) (g : SegT r' m' n' y) : SegT (r + r') (m + m') (n + n') (x ++ y) := by
  refine ⟨?_, ?_⟩
  · rw [TL.tl_append]
    exact seg_app h.seg g.seg
  · rw [TL.tl_append, List.count_append]
    have := h.nls
    have := g.nls
    omega
theorem segT_mono {r m n r' m' n' : Nat} {x : Str} (h : SegT r m n x) (a : r ≤ r') (b : m ≤ m') (c : n ≤ n') : SegT r' m' n' x := ⟨seg_mono h.seg a b, Nat.le_trans h.nls c⟩
theorem segT_sign (c : Nat) : SegT 1 1 1 (⟨#[c]⟩ : Str) := ⟨seg_of (List.count_le_length (a := 32) (l := [c])) (Nat.le_refl _), List.count_le_length (a := 10) (l := [c])⟩
theorem rowB_mono {r m r' m' : Nat} {y : Str} (h : RowB r m y) (a : r ≤ r') (b : m ≤ m') : RowB r' m' y := ⟨h.row, Nat.le_trans h.few a, Nat.le_trans h.len b⟩
theorem sum_rowsB {r m : Nat} : ∀ {ws : List Str}, (∀ y ∈ ws, RowB r m y) → (ws.map (·.length)).sum ≤ ws.length * m
  | [], _ => Nat.zero_le _
  | y :: ws, h => by
    have ih := sum_rowsB (ws := ws) fun x hx => h x (List.mem_cons_of_mem _ hx)
    have := (h y (by simp)).len
    rw [List.map_cons, List.sum_cons, List.length_cons, Nat.add_mul]
    omega
theorem sc_l_text_bent : FnScope ["_law_bag_here", "_law_text_here", "_law_rows", "_law_at", "_law_to", "_law_way", "_law_spot"] ["_law_bag_here", "_law_text_here"] (defScope s_l_text_bent) :=
  ⟨rfl, rfl, rfl, by decide +kernel, rfl, by decide +kernel, by decide +kernel⟩
theorem ok_l_text_bent (T : Tx P K mg w) : FnOk P w K mg base CX0 3 T.f_l_text_bent T.d_l_text_bent ["_law_bag_here", "_law_text_here"] (spBentT31 K) := by
  refine T.F_l_text_bent.ok sc_l_text_bent (fun vs H Q E h => ?_) (fun cdv A outer s H vs Q E hr h => ?_)
  · obtain ⟨b, c, x, r, m, n, rfl, _⟩ := h
    rfl
  · obtain ⟨b, c, x, r, m, n, rfl, B, hb, hr24, hm2, hn30, k⟩ := h
    refine ⟨_, (pss_cons (ps_set (i := 2) sc_l_text_bent.nd rfl (Or.inl rfl) (pe_m1 PySem.F.slot_str_split PySem.F.type_str_split mz_split (pv 1) pe_str)) (pss_cons (ps_set (i := 3) sc_l_text_bent.nd rfl (Or.inl rfl) (pe_call (ok_l_pull T) (hr.mono (by decide)) rfl T.g_l_pull T.F_l_pull.kp T.b_l_pull .nil pass0 (pa_cons (pv 0) (pa_cons (pe_callB (r := Z.rLen K) cz_len (by rfl) T.z_len PySem.boot_len (pa_cons (pv 2) pa_nil)) pa_nil)))) (pss_cons (ps_set (i := 4) sc_l_text_bent.nd rfl (Or.inl rfl) (pe_call (ok_l_pull T) (hr.mono (by decide)) rfl T.g_l_pull T.F_l_pull.kp T.b_l_pull .nil pass0 (pa_cons (pv 0) (pa_cons (pe_callB (r := Z.rLen K) cz_len (by rfl) T.z_len PySem.boot_len (pa_cons (pv 2) pa_nil)) pa_nil)))) (pss_cons (ps_set (i := 5) sc_l_text_bent.nd rfl (Or.inl rfl) (pe_call (ok_l_pull T) (hr.mono (by decide)) rfl T.g_l_pull T.F_l_pull.kp T.b_l_pull .nil pass0 (pa_cons (pv 0) (pa_cons pe_int pa_nil)))) (pss_cons (ps_if (pt_cmpR op_lt (pv 5) pe_int (nomark _)) (pss_one (ps_asg (pe_call (ok_l_words_bent T) (hr.mono (by decide)) rfl T.g_l_words_bent T.F_l_words_bent.kp T.b_l_words_bent .nil pass0 (pa_cons (pv 0) (pa_cons (pe_ix (r := rIxL K) ix_list (pv 2) (pv 3) (fun _ _ => rfl)) pa_nil))) (pg_sub (pv 2) (pv 3) set_list))) pss_nil) (pss_cons (ps_if (pt_cmpR op_eq (pv 5) pe_int (nomark _)) (pss_one (ps_expr (pe_bm PySem.F.plainAttrs_list PySem.F.slot_list_pop PySem.F.type_list_pop mt_popAt (pv 2) (pa_cons (pv 3) pa_nil)))) pss_nil) (pss_cons (ps_if (pt_cmpR op_eq (pv 5) pe_int (nomark _)) (pss_one (ps_expr (pe_bm PySem.F.plainAttrs_list PySem.F.slot_list_insert PySem.F.type_list_insert mt_insert (pv 2) (pa_cons (pv 4) (pa_cons (pe_ix (r := rIxL K) ix_list (pv 2) (pv 3) (fun _ _ => rfl)) pa_nil))))) pss_nil) (pss_cons (ps_if (pt_cmpR op_eq (pv 5) pe_int (nomark _)) (pss_one (ps_asg (pe_tup (pa_cons (pe_ix (r := rIxL K) ix_list (pv 2) (pv 4) (fun _ _ => rfl)) (pa_cons (pe_ix (r := rIxL K) ix_list (pv 2) (pv 3) (fun _ _ => rfl)) pa_nil))) (pg_tup (by rfl) (pgs_cons (pg_sub (pv 2) (pv 3) set_list) (pgs_cons (pg_sub (pv 2) (pv 4) set_list) pgs_nil))))) pss_nil) (pss_cons (ps_if (pt_cmpR op_lt (pv 5) pe_int (nomark _)) (pss_one (ps_ret (pe_m1 (r := rJoin K) PySem.F.slot_str_join PySem.F.type_str_join mz_join pe_str (pv 2)))) pss_nil) (pss_cons (ps_set (i := 6) sc_l_text_bent.nd rfl (Or.inl rfl) (pe_call (ok_l_pull T) (hr.mono (by decide)) rfl T.g_l_pull T.F_l_pull.kp T.b_l_pull .nil pass0 (pa_cons (pv 0) (pa_cons (pe_op op_add (pe_callB cz_lenStr (by rfl) T.z_len PySem.boot_len (pa_cons (pv 1) pa_nil)) pe_int) pa_nil)))) (pss_cons (ps_if (pt_cmpR op_eq (pv 5) pe_int (nomark _)) (pss_one (ps_ret (pe_op oz_addStr (pe_slice sl_str (pv 1) po_none (po_some (pv 6))) (pe_slice sl_str (pv 1) (po_some (pe_op op_add (pv 6) pe_int)) po_none)))) pss_nil) (pss_one (ps_ret (pe_op oz_addStr (pe_op oz_addStr (pe_slice sl_str (pv 1) po_none (po_some (pv 6))) (pe_call (ok_l_sign T) (hr.mono (by decide)) rfl T.g_l_sign T.F_l_sign.kp T.b_l_sign .nil pass0 (pa_cons (pv 0) pa_nil))) (pe_slice sl_str (pv 1) (po_some (pe_op op_add (pv 6) (pe_op op_mod (pv 5) pe_int))) po_none))))))))))))))), ?_⟩
    refine at_start (ρ' := [some _, some _, none, none, none, none, none]) rfl ?_
    have h16 := line16
    have hlen : x.length ≤ 62031 := by
      have h1 := hb.len
      have h2 : (n + 1) * (m + 1) ≤ 31 * 2001 := Nat.mul_le_mul (by omega) (by omega)
      omega
    obtain ⟨hrl, hrow⟩ := split_rows hb
    have hnl := hb.nls
    generalize hrows : Txt.split x "\n" = rows at hrl hrow
    have hr1 : 1 ≤ rows.length := by omega
    have hrn : rows.length ≤ n + 1 := by omega
    walk_at "z0"
    walk_at "z"
    refine s_splitS (by decide +kernel) (sz (by omega)) hrows ?_
    refine s_new fun L H1 nL e1 hL => ?_
    have B1 := B.ext e1
    have nLb : L ≠ b := B.neb nL
    have nLc : L ≠ c := B.nec nL
    have lenL : (rows.map V.str).length = rows.length := List.length_map ..
    walk_at "z"
    rename_i at_ H2 a0 a1 B2 f2 to_ H3 t0 t1 B3 f3 way H4 w0 w1 B4 f4
    rw [lenL] at a1 t1
    obtain ⟨i, rfl⟩ : ∃ i : Nat, at_ = (i : Nat) := ⟨at_.toNat, by omega⟩
    obtain ⟨j, rfl⟩ : ∃ j : Nat, to_ = (j : Nat) := ⟨to_.toNat, by omega⟩
    have hi : i < rows.length := by omega
    have hj : j < rows.length := by omega
    obtain ⟨yi, hyi⟩ : ∃ y, rows[i]? = some y := ⟨_, List.getElem?_eq_getElem hi⟩
    obtain ⟨yj, hyj⟩ : ∃ y, rows[j]? = some y := ⟨_, List.getElem?_eq_getElem hj⟩
    have mg' : ∀ {i : Nat} {y : Str}, rows[i]? = some y → (rows.map V.str)[i]? = some (.str y) := fun h => by rw [List.getElem?_map, h]; rfl
    have byi := hrow yi (List.mem_of_getElem? hyi)
    have byj := hrow yj (List.mem_of_getElem? hyj)
    have f04 : Fr b H H4 := (e1.fr b).trans (f2.trans (f3.trans f4))
    have hL4 := f4 _ _ nLb (f3 _ _ nLb (f2 _ _ nLb hL))
    clear f2 f3 f4 B2 B3 B1 hL e1
    have frF : ∀ {H6 H7 : Hp}, Fr b H H6 → Fr L H6 H7 → Fr b H H7 := fun f g a o n h => g _ _ (fun z => by rw [z, nL] at h; cases h) (f a o n h)
    have done : ∀ (ws : List Str) H7, (∀ y ∈ ws, RowB (2 * r + 1) (3 * m + 200) y) → ws.length ≤ n + 2 → Fr b H H7 → Bag H7 b c → H7 L = some (.lst (ws.map V.str)) → rJoin K (V.str "\n") [V.ref L] H7 Q := fun ws H7 h1 h2 f7 B7 h3 => by
      have hs := sum_rowsB h1
      have hmul : ws.length * (3 * m + 200) ≤ 32 * 6200 := Nat.mul_le_mul (by omega) (by omega)
      refine s_rJoin ws (.inl (SqL.of h3)) rfl (by rw [show (Str.ofString "\n").length = 1 from by decide +kernel]; omega) ?_
      exact k _ H7 (join_seg h1 (by omega)) f7 B7
    have old : ∀ y ∈ rows, RowB (2 * r + 1) (3 * m + 200) y := fun y hy => rowB_mono (hrow y hy) (by omega) (by omega)
    have setR : ∀ {ws : List Str} {i : Nat} {y : Str}, (∀ y ∈ ws, RowB (2 * r + 1) (3 * m + 200) y) → RowB (2 * r + 1) (3 * m + 200) y → ∀ z ∈ ws.set i y, RowB (2 * r + 1) (3 * m + 200) z := fun h1 h2 x hx => by
      rcases List.mem_or_eq_of_mem_set hx with h | h
      · exact h1 x h
      · rw [h]
        exact h2
    rcases (by omega : way < 4 ∨ way = 4 ∨ way = 5 ∨ way = 6 ∨ way = 7 ∨ 8 ≤ way) with hw | rfl | rfl | rfl | rfl | hw
    · refine ite_pos hw ?_
      walk_at "z"
      refine s_ixL (SqL.of hL4) (atI_nat (mg' hyi)) ?_
      refine ⟨b, c, yi, r, m, rfl, B4, byi, hr24, hm2, fun z H5 hz f5 B5 => ?_⟩
      walk_at "z"
      refine s_setN (f5 _ _ nLb hL4) (m := i) (by rw [lenL, ixN]; simp; omega) ((rows.set i z).map V.str) (by rw [List.map_set]) fun H6 f6 h6 => ?_
      walk_at "z"
      refine ite_neg (by omega) ?_
      walk_at "z"
      refine ite_neg (by omega) ?_
      walk_at "z"
      refine ite_neg (by omega) ?_
      walk_at "z"
      refine ite_pos (by omega) ?_
      walk_at "z"
      exact done _ H6 (setR old (rowB_mono hz (by omega) (by omega))) (by rw [List.length_set]; omega) (frF (f04.trans f5) f6) (B5.frs nLb nLc f6) h6
    · walk_at "z"
      refine ⟨L, _, (i : Nat), i, .str yi, rfl, rfl, hL4, by omega, by omega, (ixN_seq (j := i) (by rw [lenL, ixN]; simp; omega)).1, mg' hyi, ?_⟩
      have f7 : Fr L H4 (upd H4 L (.lst ((rows.map V.str).eraseIdx i))) := Fr.upd
      have h7 : (upd H4 L (.lst ((rows.map V.str).eraseIdx i))) L = some (.lst ((rows.eraseIdx i).map V.str)) := by
        rw [upd_same, erase_map]
      generalize upd H4 L _ = H7 at f7 h7 ⊢
      walk_at "z"
      exact done _ H7 (fun y hy => old y (List.mem_of_mem_eraseIdx hy)) (by have := List.length_eraseIdx_le rows i; omega) (frF f04 f7) (B4.frs nLb nLc f7) h7
    · walk_at "z"
      refine s_ixL (SqL.of hL4) (atI_nat (mg' hyi)) ?_
      walk_at "z"
      refine ⟨L, _, (j : Nat), .str yi, rfl, rfl, hL4, Nat.lt_of_lt_of_le (m := 100000) (by rw [lenL]; omega) (sz (Nat.le_refl _)), by omega, by omega, ?_⟩
      have f7 : Fr L H4 (upd H4 L (.lst (List.take ((j : Nat) : Int).toNat (rows.map V.str) ++ [V.str yi] ++ List.drop ((j : Nat) : Int).toNat (rows.map V.str)))) := Fr.upd
      have h7 : (upd H4 L (.lst (List.take ((j : Nat) : Int).toNat (rows.map V.str) ++ [V.str yi] ++ List.drop ((j : Nat) : Int).toNat (rows.map V.str)))) L = some (.lst ((rows.take j ++ [yi] ++ rows.drop j).map V.str)) := by
        rw [upd_same, List.map_append, List.map_append, List.map_take, List.map_drop]
        rfl
      generalize upd H4 L _ = H7 at f7 h7 ⊢
      walk_at "z"
      refine done _ H7 (fun y hy => ?_) ?_ (frF f04 f7) (B4.frs nLb nLc f7) h7
      · simp only [List.mem_append, List.mem_singleton] at hy
        rcases hy with (h | h) | h
        · exact old y (List.mem_of_mem_take h)
        · rw [h]
          exact rowB_mono byi (by omega) (by omega)
        · exact old y (List.mem_of_mem_drop h)
      · rw [List.length_append, List.length_append, List.length_take, List.length_drop, List.length_singleton]
        omega
    · walk_at "z"
      refine s_ixL (SqL.of hL4) (atI_nat (mg' hyj)) ?_
      walk_at "z"
      refine s_ixL (SqL.of hL4) (atI_nat (mg' hyi)) ?_
      walk_at "z"
      rename_i tp H5 ntp e5 htp
      refine s_setN (e5 _ _ hL4) (m := i) (by rw [lenL, ixN]; simp; omega) ((rows.set i yj).map V.str) (by rw [List.map_set]) fun H6 f6 h6 => ?_
      walk_at "z"
      refine s_setN h6 (m := j) (by rw [List.length_map, List.length_set, ixN]; simp; omega) (((rows.set i yj).set j yi).map V.str) (by simp only [List.map_set]) fun H7 f7 h7 => ?_
      walk_at "z"
      exact done _ H7 (setR (setR old (rowB_mono byj (by omega) (by omega))) (rowB_mono byi (by omega) (by omega))) (by rw [List.length_set, List.length_set]; omega) (frF (f04.trans (e5.fr b)) (f6.trans f7)) ((B4.ext e5).frs nLb nLc (f6.trans f7)) h7
    · walk_at "z"
      refine s_rLenStr (sz (by omega)) ?_
      walk_at "z"
      rename_i spot H5 s0 s1 B5 f5
      refine s_slS (sz (by omega)) ?_
      walk_at "z"
      refine s_slS (sz (by omega)) ?_
      have g := segT_app (seg_cut hb none (some spot)) (seg_cut hb (some (spot + 1)) none)
      have hcl : ∀ lo hi, (cutS x lo hi).length ≤ 62031 := fun lo hi => by
        have h1 := (seg_cut hb lo hi).len
        have h2 : (n + 1) * (m + 1) ≤ 31 * 2001 := Nat.mul_le_mul (by omega) (by omega)
        omega
      have l1 := hcl none (some spot)
      have l2 := hcl (some (spot + 1)) none
      refine ⟨_, _, rfl, rfl, by omega, ?_⟩
      exact k _ H5 (segT_mono g (by omega) (by omega) (by omega)) (f04.trans f5) B5
    · refine ite_neg (by omega) ?_
      walk_at "z"
      refine ite_neg (by omega) ?_
      walk_at "z"
      refine ite_neg (by omega) ?_
      walk_at "z"
      refine ite_neg (by omega) ?_
      walk_at "z"
      refine ite_neg (by omega) ?_
      walk_at "z"
      refine s_rLenStr (sz (by omega)) ?_
      walk_at "z"
      rename_i spot H5 s0 s1 B5 f5
      refine ite_neg (by omega) ?_
      walk_at "z"
      refine s_slS (sz (by omega)) ?_
      walk_at "z"
      refine ⟨b, c, rfl, B5, fun ch H6 f6 B6 => ?_⟩
      have hcl : ∀ lo hi, (cutS x lo hi).length ≤ 62031 := fun lo hi => by
        have h1 := (seg_cut hb lo hi).len
        have h2 : (n + 1) * (m + 1) ≤ 31 * 2001 := Nat.mul_le_mul (by omega) (by omega)
        omega
      have l1 := hcl none (some spot)
      have l2 := hcl (some (spot + way % 2)) none
      have lc : (⟨#[ch]⟩ : Str).length = 1 := rfl
      refine ⟨_, _, rfl, rfl, by omega, ?_⟩
      walk_at "z"
      refine s_slS (sz (by omega)) ?_
      have g := segT_app (segT_app (seg_cut hb none (some spot)) (segT_sign ch)) (seg_cut hb (some (spot + way % 2)) none)
      refine ⟨_, _, rfl, rfl, by rw [Str_len_app]; omega, ?_⟩
      exact k _ H6 (segT_mono g (by omega) (by omega) (by omega)) (f04.trans (f5.trans f6)) B6

/-! what a text is told to be, what is wrong with it -/
def RowsOk (rows : List Str) (j : Nat) : Prop := ∀ i row, i < j → rows[i]? = some row → ∃ f, RowT i row f
def BadAt (rows : List Str) (last : Str) (j : Nat) : Prop := RowsOk rows j ∧ ((∃ row, rows[j]? = some row ∧ ∀ f, ¬ RowT j row f) ∨ (j = rows.length ∧ last ≠ ""))
structure TextP (text last : Str) (rows : List Str) : Prop where
  len : text.length ≤ 10000000
  sp : Txt.split text "\n" = rows ++ [last]
  few : rows.length ≤ 119
  row : ∀ row ∈ rows, RowSm row
def spToldP (K : PySem.W.Frag) (C : Addr) : Sp := fun vs H Q _ => ∃ (text last : Str) (rows : List Str), vs = [.str text] ∧ TextP text last rows ∧
  (∀ fs : List Fct, fs.length = rows.length → (∀ j row f, rows[j]? = some row → fs[j]? = some f → RowT j row f) → last = "" → ∀ r S U H', H r = none → H S = none → H U = none → Ex H H' → RollAt K C H' r S U (prefs fs fs.length) [] → Q (.ref r) H') ∧
  (∀ j : Nat, BadAt rows last j → ∀ H', Ex H H' → Q (.int (j : Nat)) H')
theorem sc_l_told : FnScope ["_law_text_here", "e"] ["_law_text_here"] (defScope s_l_told) :=
  ⟨rfl, rfl, rfl, by decide +kernel, rfl, by decide +kernel, by decide +kernel⟩
theorem ok_l_told (T : Tx P K mg w) : FnOk P w K mg base CX0 8 T.f_l_told T.d_l_told ["_law_text_here"] (spToldP K T.C_Roll) := by
  refine T.F_l_told.ok sc_l_told (fun vs H Q E h => ?_) (fun cdv A outer s H vs Q E hr h => ?_)
  · obtain ⟨text, last, rows, rfl, _⟩ := h
    rfl
  · obtain ⟨text, last, rows, rfl, hP, kg, kb⟩ := h
    refine ⟨_, (pss_one (ps_try_mix rfl rfl sc_l_told.nd takes0 (fun W pn xe tk po => (pss_one (ps_ret (pe_callS (ok_p_read_page T) (hr.mono (by decide)) rfl T.g_p_read_page T.F_p_read_page.kp T.b_p_read_page (fun σ => passAt tk σ) (pa_cons (pv 0) pa_nil))))) (HdsM.as (i := 1) rfl rfl ⟨rfl, by decide, .inl T.g_BadPage⟩ (fun a oe cls d pn hz hf => (pss_one (ps_ret (pe_xf T.xf_BadPage T.no_BadPage hz hf (pv 1))))) HdsM.nil))), ?_⟩
    refine at_start (ρ' := [some _, none]) rfl ?_
    walk_at "z0"
    walk_at "z"
    refine ⟨text, last, rows, rfl, hP.len, hP.sp, hP.few, hP.row, fun fs hl hfs hla r S U H' nr nS nU e hR => ?_, fun j hj hbad H' d e hd => ?_⟩
    · exact kg fs hl hfs hla r S U H' nr nS nU e hR
    · refine ⟨true, T.e_BadPage, fun _ a ha => ?_, fun q => Bool.noConfusion q⟩
      dsimp only
      have e1 : Ex H' (upd H' d (.xd [("row", .int (j : Nat)), ("called", .str "BadPage")])) := Ex.new hd
      walk_at "z"
      refine ⟨.ref a, rfl, rfl, rfl, d, _, _, rfl, upd_same, rfl, ?_⟩
      exact kb j ⟨hj, hbad⟩ _ (e.trans e1)
def spWrongP : Sp := fun vs H Q _ => ∃ (text last : Str) (rows : List Str), vs = [.str text] ∧ TextP text last rows ∧
  (RowsOk rows rows.length → last = "" → ∀ H', Ex H H' → Q .non H') ∧ (∀ j : Nat, BadAt rows last j → ∀ H', Ex H H' → Q (.int (j : Nat)) H')
theorem sc_l_wrong : FnScope ["_law_text_here", "_law_rows", "_law_at", "_law_words", "_law_fact_here"] ["_law_text_here"] (defScope s_l_wrong) :=
  ⟨rfl, rfl, rfl, by decide +kernel, rfl, by decide +kernel, by decide +kernel⟩
theorem ok_l_wrong (T : Tx P K mg w) : FnOk P w K mg base CX0 3 T.f_l_wrong T.d_l_wrong ["_law_text_here"] spWrongP := by
  refine T.F_l_wrong.ok sc_l_wrong (fun vs H Q E h => ?_) (fun cdv A outer s H vs Q E hr h => ?_)
  · obtain ⟨text, last, rows, rfl, _⟩ := h
    rfl
  · obtain ⟨text, last, rows, rfl, hP, kg, kb⟩ := h
    have h16 := line16
    have htl := hP.len
    have hfewr := hP.few
    refine ⟨_, (pss_cons (ps_set (i := 1) sc_l_wrong.nd rfl (Or.inl rfl) (pe_m1 PySem.F.slot_str_split PySem.F.type_str_split mz_split (pv 0) pe_str)) (pss_cons (ps_for PassesOwn.never rfl (pi_range1 (by rfl) T.z_range (pa_cons (pe_op op_sub (pe_callB (r := Z.rLen K) cz_len (by rfl) T.z_len PySem.boot_len (pa_cons (pv 1) pa_nil)) pe_int) pa_nil)) (pg_name (i := 2) sc_l_wrong.nd rfl (Or.inl rfl)) (pss_cons (ps_set (i := 3) sc_l_wrong.nd rfl (Or.inl rfl) (pe_m1 PySem.F.slot_str_split PySem.F.type_str_split mz_split (pe_ix (r := rIxL K) ix_list (pv 1) (pv 2) (fun _ _ => rfl)) pe_str)) (pss_cons (ps_set (i := 4) sc_l_wrong.nd rfl (Or.inl rfl) (pe_call (ok_l_fact_read T) (hr.mono (by decide)) rfl T.g_l_fact_read T.F_l_fact_read.kp T.b_l_fact_read .nil pass0 (pa_cons (pe_slice (r := rSlL K) sl_list (pv 3) (po_some pe_int) po_none) pa_nil))) (pss_one (ps_if (PW.pt (pw_or (pt_cmpR op_ne (pe_call (ok_l_number_read T) (hr.mono (by decide)) rfl T.g_l_number_read T.F_l_number_read.kp T.b_l_number_read .nil pass0 (pa_cons (pe_ix (r := rIxL K) ix_list (pv 3) pe_int (fun _ _ => rfl)) pa_nil)) (pe_op op_add (pv 2) pe_int) (nomark _)) (pw_or (pt_cmpR op_isN1 (pv 4) pe_non (nomark _)) (pw_or1 (pt_cmpR op_ge (pe_call (ok_l_fact_place T) (hr.mono (by decide)) rfl T.g_l_fact_place T.F_l_fact_place.kp T.b_l_fact_place .nil pass0 (pa_cons (pv 4) pa_nil)) pe_int (nomark _)))))) (pss_one (ps_ret (pv 2))) pss_nil))))) (pss_one (ps_ret (pe_ifExp (pt_cmpR op_eq (pe_ix (r := rIxL K) ix_list (pv 1) (pe_un un_neg pe_int) (fun _ _ => rfl)) pe_str (nomark _)) pe_non (pe_op op_sub (pe_callB (r := Z.rLen K) cz_len (by rfl) T.z_len PySem.boot_len (pa_cons (pv 1) pa_nil)) pe_int)))))), ?_⟩
    refine at_start (ρ' := [some _, none, none, none, none]) rfl ?_
    walk_at "z0"
    walk_at "z"
    refine s_splitS (by decide +kernel) (by omega) hP.sp ?_
    refine s_new fun L H1 nL e1 hL => ?_
    have hll : ((rows ++ [last]).map V.str).length = rows.length + 1 := by rw [List.length_map, List.length_append]; rfl
    have hLL : SqL K H1 L ((rows ++ [last]).map V.str) := SqL.of hL
    walk_at "z"
    rw [hll]
    refine l_range ⟨by omega, by omega⟩ (fun i σ H' => ∃ v2 v3 v4, σ = [some (.str text), some (.ref L), v2, v3, v4] ∧ Ex H1 H' ∧ RowsOk rows i) ⟨_, _, _, rfl, Ex.refl, fun i row h => absurd h (Nat.not_lt_zero _)⟩ (fun i σ H2 hi h => ?_) (fun σ H2 h => ?_)
    · obtain ⟨v2, v3, v4, rfl, e2, hok⟩ := h
      have hir : i < rows.length := by omega
      obtain ⟨row, hrw⟩ : ∃ row, rows[i]? = some row := ⟨_, List.getElem?_eq_getElem hir⟩
      obtain ⟨hl90, z, rest, hs, hys, hfew⟩ := hP.row row (List.mem_of_getElem? hrw)
      have hm : ((rows ++ [last]).map V.str)[i]? = some (.str row) := by
        rw [List.getElem?_map, List.getElem?_append_left hir, hrw]
        rfl
      have bad : ∀ H3, Ex H2 H3 → (∀ f, ¬ RowF i z rest f) → Q (.int (i : Nat)) H3 := fun H3 e3 no =>
        kb i ⟨hok, .inl ⟨row, hrw, fun f ⟨z', rest', h1, h2⟩ => by
          rw [hs] at h1
          cases h1
          exact no f h2⟩⟩ H3 ((e1.trans e2).trans e3)
      have good : ∀ f, RowF i z rest f → RowsOk rows (i + 1) := fun f hf i' row' hi' hr' => by
        by_cases h : i' < i
        · exact hok i' row' h hr'
        · have : i' = i := by omega
          subst this
          rw [hrw] at hr'
          cases hr'
          exact ⟨f, z, rest, hs, hf⟩
      walk_at "z"
      refine s_ixL (e2.sqL hLL) (atI_nat hm) ?_
      walk_at "z"
      refine s_splitS (by decide +kernel) (by omega) hs ?_
      refine s_new fun W H3 nW e3 hW => ?_
      have hWL : SqL K H3 W (V.str z :: rest.map V.str) := SqL.of hW
      walk_at "z"
      rename_i q H4 nq e4 hq
      rw [cut_fromA (by decide)] at hq
      replace hq : H4 q = some (.lst (rest.map V.str)) := hq
      have num : ∀ (fv : V) H5, Ex H4 H5 → ((∀ n H6, NumOk n → z = iTx n → Ex H5 H6 → True) ∧ True) := fun _ _ _ => ⟨fun _ _ _ _ _ => trivial, trivial⟩
      clear num
      refine ⟨q, rest, rfl, SqL.of hq, fun y hy => hys y (List.mem_cons_of_mem _ hy), by omega, fun f v H5 hw hrd e5 hrf => ?_, fun hno H5 e5 => ?_⟩
      · have hbt := read_bent hrd
        have eW := e4.trans e5
        walk_at "z"
        refine s_ixL (eW.sqL hWL) (at0 _ _) ?_
        walk_at "z"
        refine ⟨z, rfl, hys z (by simp), fun n H6 hn ez e6 => ?_, fun hn H6 e6 => ?_⟩
        · obtain ⟨va, us, rfl, hva, hus⟩ := id hrf
          walk_at "z"
          rcases Classical.em (¬ n = ((i : Nat) : Int) + 1) with h1 | h1
          · refine ite_npos h1 ?_
            walk_at "z"
            refine bad H6 (((e3.trans e4).trans e5).trans e6) fun f' hf' => h1 ?_
            have := iTx_inj hn (num_small (k := i + 1) (by omega)) (ez.symm.trans hf'.1)
            omega
          · replace h1 := Classical.byContradiction h1
            refine ite_nneg h1 ?_
            walk_at "z"
            refine ⟨_, f, rfl, rf_map (fun z => e6.sqT z) hrf, hbt, fun H7 e7 => ?_⟩
            walk_at "z"
            cases hp : placeF f with
            | none =>
              have hpi : placeI f = -1 := by
                unfold placeI
                rw [hp]
              rw [hpi]
              walk_at "z"
              exact ⟨_, _, _, rfl, (((e2.trans e3).trans (e4.trans e5)).trans e6).trans e7, good f ⟨ez.trans (congrArg iTx (by omega)), hw, hrd, hp⟩⟩
            | some p =>
              have hpi : placeI f = (p : Nat) := by
                unfold placeI
                rw [hp]
              rw [hpi]
              refine ite_pos (by omega) ?_
              walk_at "z"
              refine bad H7 ((((e3.trans e4).trans e5).trans e6).trans e7) fun f' hf' => ?_
              have := words_inj hrd hf'.2.2.1 (hw.symm.trans hf'.2.1)
              have z4 := hf'.2.2.2
              rw [← this, hp] at z4
              cases z4
        · walk_at "z"
          exact bad H6 (((e3.trans e4).trans e5).trans e6) fun f' hf' => hn ⟨_, num_small (k := i + 1) (by omega), hf'.1⟩
      · have eW := e4.trans e5
        walk_at "z"
        refine s_ixL (eW.sqL hWL) (at0 _ _) ?_
        walk_at "z"
        refine ⟨z, rfl, hys z (by simp), fun n H6 hn ez e6 => ?_, fun hn H6 e6 => ?_⟩
        · walk_at "z"
          rcases Classical.em (¬ n = ((i : Nat) : Int) + 1) with h1 | h1
          · refine ite_npos h1 ?_
            walk_at "z"
            exact bad H6 (((e3.trans e4).trans e5).trans e6) fun f' hf' => hno ⟨f', hf'.2.1, hf'.2.2.1⟩
          · refine ite_nneg (Classical.byContradiction h1) ?_
            walk_at "z"
            exact bad H6 (((e3.trans e4).trans e5).trans e6) fun f' hf' => hno ⟨f', hf'.2.1, hf'.2.2.1⟩
        · walk_at "z"
          exact bad H6 (((e3.trans e4).trans e5).trans e6) fun f' hf' => hno ⟨f', hf'.2.1, hf'.2.2.1⟩
    · obtain ⟨v2, v3, v4, rfl, e2, hok⟩ := h
      have hn : (((rows.length + 1 : Nat) : Int) - 1).toNat = rows.length := by omega
      rw [hn] at hok
      have hL2 := e2.sqL hLL
      walk_at "z"
      refine s_ixL hL2 (last_at (by rw [List.map_append]; exact List.getLast?_concat)) ?_
      walk_at "z"
      by_cases hla : last = ""
      · refine ite_pos hla ?_
        walk_at "z"
        exact kg hok hla H2 (e1.trans e2)
      · refine ite_neg hla ?_
        walk_at "z"
        rw [hll]
        have := kb rows.length ⟨hok, .inr ⟨rfl, hla⟩⟩ H2 (e1.trans e2)
        rw [show ((rows.length + 1 : Nat) : Int) - 1 = ((rows.length : Nat) : Int) from by omega]
        exact this

/-! what is good is placed nowhere -/
theorem argOk_of {k : Str} {lo hi n : Int} (hb : bndOf k = (lo, some hi)) (h : R lo hi n) : argOk k (.i n) = true := by
  show within (bndOf k).1 (bndOf k).2 n = true
  rw [hb]
  show (decide (lo ≤ n) && decide (n ≤ hi)) = true
  rw [decide_eq_true h.1, decide_eq_true h.2]
  rfl
theorem placeF_of {f : Fct} {ks : List Str} (h : shapeOf f.w = some ks) (hl : ks.length = f.xs.length) (hb : firstBad 1 ks f.xs = none) : placeF f = none := by
  unfold placeF
  rw [h]
  dsimp only
  rw [if_pos hl]
  exact hb
theorem fb_nil {i : Nat} : firstBad i [] [] = none := rfl
theorem fb_cons {i : Nat} {k : Str} {ks : List Str} {x : Arg} {xs : List Arg} (h : argOk k x = true) (r : firstBad (i + 1) ks xs = none) : firstBad i (k :: ks) (x :: xs) = none := by
  rw [firstBad, if_pos h]
  exact r
theorem gf_place {f : Fct} (g : GF f) : placeF f = none := by
  have bg : bndOf "gate" = (0, some 7) := by decide +kernel
  have bd : bndOf "day" = (0, some 999) := by decide +kernel
  have bh : bndOf "toll" = (0, some 48) := by decide +kernel
  have bt : bndOf "trust" = (0, some 3) := by decide +kernel
  have bc : bndOf "carriage" = (0, some 9) := by decide +kernel
  have bm : bndOf "minute" = (0, some 1439) := by decide +kernel
  have bo : bndOf "horses" = (1, some 8) := by decide +kernel
  have bp : bndOf "payment" = (0, some 100000) := by decide +kernel
  cases g with
  | toll h1 h2 h3 => exact placeF_of (ks := ["gate", "day", "toll"]) (by dsimp only; decide +kernel) rfl (fb_cons (argOk_of bg h1) (fb_cons (argOk_of bd h2) (fb_cons (argOk_of bh h3) fb_nil)))
  | @board g d gs h1 h2 h3 h4 =>
    refine placeF_of (ks := ["gate", "day", "gates"]) (by dsimp only; decide +kernel) rfl (fb_cons (argOk_of bg h1) (fb_cons (argOk_of bd h2) (fb_cons ?_ fb_nil)))
    show (gs.all (within 0 (some 7)) && decide (gs.Pairwise (· < ·))) = true
    rw [Bool.and_eq_true]
    exact ⟨List.all_eq_true.mpr fun x hx => (within_gate x).mpr (h4 x hx), decide_eq_true h3⟩
  | trust h1 h2 h3 => exact placeF_of (ks := ["gate", "day", "trust"]) (by dsimp only; decide +kernel) rfl (fb_cons (argOk_of bg h1) (fb_cons (argOk_of bd h2) (fb_cons (argOk_of bt h3) fb_nil)))
  | folk h1 h2 h3 => exact placeF_of (ks := ["carriage", "day", "day"]) (by dsimp only; decide +kernel) rfl (fb_cons (argOk_of bc h1) (fb_cons (argOk_of bd h2) (fb_cons (argOk_of bd h3) fb_nil)))
  | bargain h1 h2 h3 h4 => exact placeF_of (ks := ["gate", "carriage", "day", "day"]) (by dsimp only; decide +kernel) rfl (fb_cons (argOk_of bg h1) (fb_cons (argOk_of bc h2) (fb_cons (argOk_of bd h3) (fb_cons (argOk_of bd h4) fb_nil))))
  | pass h1 h2 h3 h4 h5 => exact placeF_of (ks := ["day", "minute", "gate", "carriage", "horses"]) (by dsimp only; decide +kernel) rfl (fb_cons (argOk_of bd h1) (fb_cons (argOk_of bm h2) (fb_cons (argOk_of bg h3) (fb_cons (argOk_of bc h4) (fb_cons (argOk_of bo h5) fb_nil)))))
  | @lost n m h1 h2 =>
    refine placeF_of (ks := ["number", "minute"]) (by dsimp only; decide +kernel) rfl (fb_cons ?_ (fb_cons (argOk_of bm h2) fb_nil))
    show within (bndOf "number").1 (bndOf "number").2 n = true
    rw [show bndOf "number" = (1, none) from by decide +kernel]
    show (decide ((1 : Int) ≤ n) && true) = true
    rw [decide_eq_true h1]
    rfl
  | paid h1 h2 h3 => exact placeF_of (ks := ["carriage", "day", "payment"]) (by dsimp only; decide +kernel) rfl (fb_cons (argOk_of bc h1) (fb_cons (argOk_of bd h2) (fb_cons (argOk_of bp h3) fb_nil)))

/-! the law: texts, their rows, what is wrong with them -/
theorem join_spl (k : Nat) : ∀ (l acc : List Nat), TL.joinL [k] (TL.spl [k] 0 acc l) = acc ++ l
  | [], acc => by
    rw [TL.spl_nil, List.append_nil]
    rfl
  | c :: r, acc => by
    by_cases hc : c = k
    · subst hc
      rw [TL.spl_hit (by rw [preK]; exact decide_eq_true rfl)]
      have e0 : ([c] : List Nat).length - 1 = 0 := rfl
      rw [e0]
      have ih := join_spl c r []
      have hl := (splK c r [] (by simp)).1
      cases hs : TL.spl [c] 0 [] r with
      | nil =>
        rw [hs] at hl
        simp at hl
      | cons q ps =>
        rw [hs] at ih
        show acc ++ ([c] ++ TL.joinL [c] (q :: ps)) = acc ++ c :: r
        rw [ih]
        rfl
    · rw [TL.spl_miss (by rw [preK, decide_eq_false hc]), join_spl k r (acc ++ [c]), List.append_assoc]
      rfl
theorem join_split_nl (x : Str) : Txt.join "\n" (Txt.split x "\n") = x := by
  refine TL.ext_tl ?_
  rw [show TL.tl (Txt.join "\n" (Txt.split x "\n")) = TL.joinL [10] ((Txt.split x "\n").map TL.tl) from by rw [TL.join_eq, TL.tl_join, nl_tl], split_nl, join_spl]
  rfl
theorem join_split_bl (x : Str) : Txt.join " " (Txt.split x " ") = x := by
  refine TL.ext_tl ?_
  rw [show TL.tl (Txt.join " " (Txt.split x " ")) = TL.joinL [32] ((Txt.split x " ").map TL.tl) from by rw [TL.join_eq, TL.tl_join, blank_tl], split_tl, join_spl]
  rfl
theorem row_is {i : Nat} {row : Str} {f : Fct} (h : RowT i row f) : row = rowJ ((i + 1 : Nat) : Int) f := by
  obtain ⟨z, rest, hs, h1, h2, _⟩ := h
  rw [← join_split_bl row, hs, h1, h2]
  rfl
theorem page_eq (fs : List Fct) : pageT (fs.map some) = Txt.join "\n" (rowsJ 1 fs ++ [Str.ofString ""]) := by
  unfold pageT
  rw [pairs_all, TL.join_eq, TL.join_eq]
  exact join_nl _
theorem page_is {text : Str} {rows : List Str} {fs : List Fct} (hs : Txt.split text "\n" = rows ++ [("" : Str)]) (hl : fs.length = rows.length) (h : ∀ j row f, rows[j]? = some row → fs[j]? = some f → RowT j row f) : pageT (fs.map some) = text := by
  have e : rowsJ 1 fs = rows := by
    refine List.ext_getElem? fun i => ?_
    rw [rows_get]
    by_cases hi : i < rows.length
    · obtain ⟨row, hr⟩ : ∃ row, rows[i]? = some row := ⟨_, List.getElem?_eq_getElem hi⟩
      obtain ⟨f, hf⟩ : ∃ f, fs[i]? = some f := ⟨_, List.getElem?_eq_getElem (by omega)⟩
      rw [hr, hf, row_is (h i row f hr hf), Nat.add_comm i 1]
      rfl
    · rw [List.getElem?_eq_none (by omega), List.getElem?_eq_none (by omega)]
      rfl
  rw [page_eq, e]
  have := join_split_nl text
  rw [hs] at this
  exact this
theorem bad_not {rows : List Str} {last : Str} {j : Nat} (h : RowsOk rows rows.length) (hl : last = "") : ¬ BadAt rows last j := by
  rintro ⟨_, ⟨row, hr, hn⟩ | ⟨_, hn⟩⟩
  · obtain ⟨f, hf⟩ := h j row (List.getElem?_eq_some_iff.mp hr).1 hr
    exact hn f hf
  · exact hn hl
theorem bad_le {rows : List Str} {last : Str} {j j' : Nat} (h : BadAt rows last j) (h' : BadAt rows last j') : ¬ j < j' := fun hlt => by
  obtain ⟨_, h1⟩ := h
  obtain ⟨ok, h2⟩ := h'
  have hj' : j' ≤ rows.length := by
    rcases h2 with ⟨row, hr, _⟩ | ⟨e, _⟩
    · exact Nat.le_of_lt (List.getElem?_eq_some_iff.mp hr).1
    · omega
  rcases h1 with ⟨row, hr, hn⟩ | ⟨e, _⟩
  · obtain ⟨f, hf⟩ := ok j row hlt hr
    exact hn f hf
  · omega
theorem bad_one {rows : List Str} {last : Str} {j j' : Nat} (h : BadAt rows last j) (h' : BadAt rows last j') : j = j' := by
  have := bad_le h h'
  have := bad_le h' h
  omega
theorem rows_ok {rows : List Str} {fs : List Fct} (hl : fs.length = rows.length) (h : ∀ j row f, rows[j]? = some row → fs[j]? = some f → RowT j row f) : RowsOk rows rows.length := fun i row hi hr =>
  ⟨fs[i]'(by omega), h i row _ hr (List.getElem?_eq_getElem (by omega))⟩
theorem textP_of {r m n : Nat} {x : Str} (h : SegT r m n x) (hr : r ≤ 58) (hm : m ≤ 90000) (hn : n ≤ 119) (hl : (n + 1) * (m + 1) ≤ 10000000) : ∃ last rows, TextP x last rows := by
  obtain ⟨h1, h2⟩ := split_rows h
  have h3 := h.nls
  have hne : Txt.split x "\n" ≠ [] := fun e => by
    rw [e] at h1
    simp at h1
  refine ⟨(Txt.split x "\n").getLast hne, (Txt.split x "\n").dropLast, Nat.le_trans h.len hl, (List.dropLast_concat_getLast hne).symm, ?_, fun row hrow => ?_⟩
  · rw [List.length_dropLast]
    omega
  · have hb := h2 row (List.dropLast_subset _ hrow)
    obtain ⟨z, rest, hs, hf, _, hw⟩ := row_words hb
    refine ⟨Nat.le_trans hb.len hm, z, rest, hs, fun y hy => ?_, by omega⟩
    have := (hw y hy).2.2
    omega
theorem sum_le31 {M : Nat} : ∀ {ws : List Str}, (∀ y ∈ ws, y.length ≤ M) → (ws.map (·.length)).sum ≤ ws.length * M
  | [], _ => Nat.zero_le _
  | y :: ws, h => by
    have ih := sum_le31 (ws := ws) fun x hx => h x (List.mem_cons_of_mem _ hx)
    have := h y (by simp)
    rw [List.map_cons, List.sum_cons, List.length_cons, Nat.add_mul]
    omega
theorem gf_eight {f : Fct} (g : GF f) : f.w ∈ eightW := by
  cases g <;> simp [eightW]
theorem gf_few {f : Fct} (g : GF f) : (wordsF f).length ≤ 12 := by
  cases g with
  | @board g d gs h1 h2 h3 h4 =>
    have hl : gs.length ≤ 8 := by
      refine nodup_sub_len (m := [0, 1, 2, 3, 4, 5, 6, 7]) (h3.imp fun h => by omega) fun x hx => ?_
      obtain ⟨a, b⟩ := h4 x hx
      simp only [List.mem_cons, List.not_mem_nil, or_false]
      omega
    rw [words_ns, List.length_cons, List.length_map]
    show (g :: d :: (gs ++ [])).length + 1 ≤ 12
    rw [List.append_nil, List.length_cons, List.length_cons]
    omega
  | _ => simp [wordsF, partsF, argW]
theorem row_base {n : Int} {f : Fct} (hn : NumOk n) (g : GF f) (b : Bent f) : RowB 12 420 (rowJ n f) := by
  have ok := read_gf b (gf_place g)
  have hfew := gf_few g
  have hw : ∀ y ∈ iTx n :: wordsF f, (32 ∉ TL.tl y ∧ 10 ∉ TL.tl y) ∧ y.length ≤ 30 := fun y hy => by
    rcases List.mem_cons.mp hy with rfl | hy
    · exact ⟨⟨iTx_free hn (by omega), iTx_free hn (by omega)⟩, iTx_len30 hn⟩
    · rw [words_ns] at hy
      rcases List.mem_cons.mp hy with rfl | hy
      · obtain ⟨a, b⟩ := word_eight (gf_eight g)
        exact ⟨⟨a 32 (.inl rfl), a 10 (.inr rfl)⟩, by omega⟩
      · obtain ⟨m, hm, rfl⟩ := List.mem_map.mp hy
        have hk := ok.nums m hm
        exact ⟨⟨iTx_free hk (by omega), iTx_free hk (by omega)⟩, iTx_len30 hk⟩
  have hs := sum_le31 fun y hy => (hw y hy).2
  have hmul : (iTx n :: wordsF f).length * 30 ≤ 13 * 30 := Nat.mul_le_mul_right _ (by rw [List.length_cons]; omega)
  exact join_row (fun y hy => (hw y hy).1) (by rw [List.length_cons]; omega) (by rw [List.length_cons] at *; omega)
theorem seg_page {fs : List Fct} (h : ∀ f ∈ fs, GF f ∧ Bent f) (hz : fs.length ≤ 14) : SegT 12 420 14 (pageT (fs.map some)) := by
  rw [page_eq]
  refine join_seg (fun y hy => ?_) (by rw [List.length_append, rows_len]; show fs.length + 1 ≤ 15; omega)
  rcases List.mem_append.mp hy with hy | hy
  · obtain ⟨i, hi⟩ := List.mem_iff_getElem?.mp hy
    rw [rows_get] at hi
    obtain ⟨f, hf, rfl⟩ := Option.map_eq_some_iff.mp hi
    have hlt := (List.getElem?_eq_some_iff.mp hf).1
    obtain ⟨g, b⟩ := h f (List.mem_of_getElem? hf)
    exact row_base (num_small (by omega)) g b
  · rw [List.mem_singleton.mp hy]
    exact ⟨by decide +kernel, by decide +kernel, by decide +kernel⟩

theorem s_isNo {C : Addr} {x : V} {n : String} {H : Hp} {Q : VK} (ty : TyX K H x (.ref C)) (hm : PySem.W.kitMeta n = true) (e : PySem.W.subIn K (.ref C) (.type n) = some false) (k : Q (.bl false) H) : rIsi K [x, .ty n] H Q := by
  refine ⟨x, .ty n, .ref C, .type n, false, rfl, .ty n, ty, ?_, k⟩
  unfold PySem.W.kitOne
  rw [if_neg (fun z => nomatch (eq_of_beq z : Value.ref C = Value.type n))]
  unfold PySem.W.kitCls
  dsimp only
  rw [if_pos hm]
  exact e
theorem use_int24 {H : Hp} {Q : VK} {E : XK} {x : Int} (k : ∀ H', Ex H H' → Q (.bl true) H') : spLike K 6 ([.int x, .int x] ++ []) H Q E := use_like24 (.int _) (.int _) trivial k
/-- a page of one long number -/
def big31 : Int := 10 ^ 30 - 1
def bigF31 : Fct := ⟨"lost", [.i big31, .i 5]⟩
def bigP : Str := ("1 lost " : Str) ++ Txt.mul "9" 30 ++ (" 5\n" : Str)
def bigR : Str := ("1 lost " : Str) ++ Txt.mul "9" 30 ++ (" 5" : Str)
def bigP1 : Str := ("1 lost 1" : Str) ++ Txt.mul "0" 30 ++ (" 5\n" : Str)
def bigR1 : Str := ("1 lost 1" : Str) ++ Txt.mul "0" 30 ++ (" 5" : Str)
theorem big31_ok : NumOk big31 := ⟨by decide, by decide⟩
theorem bigF31_gf : GF bigF31 := .lost (by decide) ⟨by decide, by decide⟩
theorem bigF31_read : ReadOk bigF31 := factL_flat (ks := ["number", "minute"]) (ns := [big31, 5]) (by decide +kernel) (by decide +kernel) rfl (fun n hn => by
  simp only [List.mem_cons, List.not_mem_nil, or_false] at hn
  rcases hn with rfl | rfl
  · exact big31_ok
  · exact ⟨by decide, by decide⟩) (by decide)
theorem bigP_split : Txt.split bigP "\n" = [bigR] ++ [("" : Str)] := by decide +kernel
theorem bigR_split : Txt.split bigR " " = ("1" : Str) :: [("lost" : Str), Txt.mul "9" 30, "5"] := by decide +kernel
theorem bigR_row : RowT 0 bigR bigF31 := ⟨_, _, bigR_split, by decide +kernel, by decide +kernel, bigF31_read, gf_place bigF31_gf⟩
theorem bigP_P : TextP bigP "" [bigR] := ⟨by decide +kernel, bigP_split, by decide, fun row h => by
  rw [List.mem_singleton.mp h]
  exact ⟨by decide +kernel, _, _, bigR_split, by decide +kernel, by decide⟩⟩
theorem bigP1_split : Txt.split bigP1 "\n" = [bigR1] ++ [("" : Str)] := by decide +kernel
theorem bigR1_split : Txt.split bigR1 " " = ("1" : Str) :: [("lost" : Str), ("1" : Str) ++ Txt.mul "0" 30, "5"] := by decide +kernel
theorem bigR1_no (f : Fct) : ¬ RowT 0 bigR1 f := by
  rintro ⟨z, rest, hs, _, hw, hr, _⟩
  rw [bigR1_split] at hs
  cases hs
  rw [words_ns] at hw
  obtain ⟨_, h2⟩ := List.cons.inj hw
  cases hn : nsF f with
  | nil =>
    rw [hn] at h2
    cases h2
  | cons n ns =>
    rw [hn] at h2
    obtain ⟨e1, _⟩ := List.cons.inj h2
    have h1 := iTx_len30 (hr.nums n (by rw [hn]; exact List.mem_cons_self))
    rw [← e1] at h1
    exact absurd h1 (by decide +kernel)
theorem bigP1_P : TextP bigP1 "" [bigR1] := ⟨by decide +kernel, bigP1_split, by decide, fun row h => by
  rw [List.mem_singleton.mp h]
  exact ⟨by decide +kernel, _, _, bigR1_split, by decide +kernel, by decide⟩⟩
theorem bigP1_bad : BadAt [bigR1] "" 0 := ⟨fun i row h => absurd h (Nat.not_lt_zero _), .inl ⟨bigR1, rfl, bigR1_no⟩⟩
theorem none_P : TextP "" "" [] := ⟨by decide +kernel, by decide +kernel, by decide, fun row h => by cases h⟩
theorem bigP_rows : RowsOk [bigR] [bigR].length := fun i row hi hr => by
  have : i = 0 := by
    have : i < 1 := hi
    omega
  subst this
  cases hr
  exact ⟨bigF31, bigR_row⟩
theorem sml_rows {rows : List Str} {fs : List Fct} (hl : fs.length = rows.length) (h : ∀ j row f, rows[j]? = some row → fs[j]? = some f → RowT j row f) {n : Int} {g : Fct} (hs : standF (fs.map some) n = some g) : Sml g := by
  obtain ⟨i, hi⟩ := List.mem_iff_getElem?.mp (all_stand hs)
  have hlt := (List.getElem?_eq_some_iff.mp hi).1
  obtain ⟨row, hr⟩ : ∃ row, rows[i]? = some row := ⟨_, List.getElem?_eq_getElem (by omega)⟩
  obtain ⟨_, _, _, _, _, hok, _⟩ := h i row g hr hi
  exact hok.sml
theorem sc_law : FnScope ["_law_script", "_law_bag_here", "_law_facts", "_law_whole", "_law_turn", "_law_text_here", "_law_found", "_law_due", "_law_big", "_law_at"] ["_law_script"] (defScope s_law) :=
  ⟨rfl, rfl, rfl, by decide +kernel, rfl, by decide +kernel, by decide +kernel⟩
theorem ok_law (T : Tx P K mg w) {f : Addr} {fd : FuncData} (F : Fun K "law" "law" s_law f fd) : FnOk P w K mg base CX0 16 f fd ["_law_script"] (spLaw K) := by
  refine F.ok sc_law (fun vs H Q E h => ?_) (fun cdv A outer s H vs Q E hr h => ?_)
  · obtain ⟨a, ns, rfl, _⟩ := h
    rfl
  · obtain ⟨a, ns, rfl, hS, hl, k⟩ := h
    refine ⟨_, (pss_cons (ps_set (i := 1) sc_law.nd rfl (Or.inr rfl) (pe_call (ok_l_bag T) (hr.mono (by decide)) rfl T.g_l_bag T.F_l_bag.kp T.b_l_bag .nil pass0 (pa_cons (pv 0) pa_nil))) (pss_cons (ps_set (i := 2) sc_law.nd rfl (Or.inr rfl) (pe_lc (own := [("_law_turn", 4)]) (by rfl) sc_law.nd (pi_range1 (by rfl) T.z_range (pa_cons (pe_call (ok_l_pull T) (hr.mono (by decide)) rfl T.g_l_pull T.F_l_pull.kp T.b_l_pull .nil pass0 (pa_cons (pv 1) (pa_cons pe_int pa_nil))) pa_nil)) (blkOk_by (own := [("_law_turn", 4)]) (N := ["_law_script", "_law_bag_here", "_law_facts", "_law_whole", "_law_turn", "_law_text_here", "_law_found", "_law_due", "_law_big", "_law_at"]) (sc := defScope s_law) (by decide +kernel)) (fun _ _ _ _ _ => (pg_name (i := 4) sc_law.nd rfl (Or.inl rfl))) (fun _ _ _ _ _ => pts_nil) (fun _ _ _ _ _ => (pe_call (ok_l_fact T) (hr.mono (by decide)) rfl T.g_l_fact T.F_l_fact.kp T.b_l_fact .nil pass0 (pa_cons (pv 1) (pa_cons pe_int pa_nil)))))) (pss_cons (ps_set (i := 3) sc_law.nd rfl (Or.inl rfl) (pe_m1 (r := rJoin K) PySem.F.slot_str_join PySem.F.type_str_join mz_join pe_str (pe_lc (own := [("_law_at", 9)]) (by rfl) sc_law.nd (pi_range1 (by rfl) T.z_range (pa_cons (pe_callB (r := Z.rLen K) cz_len (by rfl) T.z_len PySem.boot_len (pa_cons (pv 2) pa_nil)) pa_nil)) (blkOk_by (own := [("_law_at", 9)]) (N := ["_law_script", "_law_bag_here", "_law_facts", "_law_whole", "_law_turn", "_law_text_here", "_law_found", "_law_due", "_law_big", "_law_at"]) (sc := defScope s_law) (by decide +kernel)) (fun _ _ _ _ _ => (pg_name (i := 9) sc_law.nd rfl (Or.inl rfl))) (fun _ _ _ _ _ => pts_nil) (fun _ _ _ _ _ => (pe_op oz_addStr (pe_op oz_addStr (pe_op oz_addStr (pe_callTy cz_strInt (by rfl) T.z_str (by decide +kernel) (pa_cons (pe_op op_add (pv 9) pe_int) pa_nil)) pe_str) (pe_call (ok_l_text T) (hr.mono (by decide)) rfl T.g_l_text T.F_l_text.kp T.b_l_text .nil pass0 (pa_cons (pe_ix (r := rIxL K) ix_list (pv 2) (pv 9) (fun _ _ => rfl)) pa_nil))) pe_str))))) (pss_cons (ps_for PassesOwn.never rfl (pi_range1 (by rfl) T.z_range (pa_cons pe_int pa_nil)) (pg_name (i := 4) sc_law.nd rfl (Or.inl rfl)) (pss_cons (ps_set (i := 5) sc_law.nd rfl (Or.inl rfl) (pe_call (ok_l_text_bent T) (hr.mono (by decide)) rfl T.g_l_text_bent T.F_l_text_bent.kp T.b_l_text_bent .nil pass0 (pa_cons (pv 1) (pa_cons (pv 3) pa_nil)))) (Evl.pss_cut (ps_if (pt_cmpR op_gt (pv 4) pe_int (nomark _)) (pss_one (ps_set (i := 5) sc_law.nd rfl (Or.inl rfl) (pe_call (ok_l_text_bent T) (hr.mono (by decide)) rfl T.g_l_text_bent T.F_l_text_bent.kp T.b_l_text_bent .nil pass0 (pa_cons (pv 1) (pa_cons (pv 5) pa_nil))))) pss_nil) (pss_cons (ps_set (i := 6) sc_law.nd rfl (Or.inl rfl) (pe_call (ok_l_told T) (hr.mono (by decide)) rfl T.g_l_told T.F_l_told.kp T.b_l_told .nil pass0 (pa_cons (pv 5) pa_nil))) (pss_cons (ps_set (i := 7) sc_law.nd rfl (Or.inl rfl) (pe_call (ok_l_wrong T) (hr.mono (by decide)) rfl T.g_l_wrong T.F_l_wrong.kp T.b_l_wrong .nil pass0 (pa_cons (pv 5) pa_nil))) (pss_one (ps_if (pt_cmpR op_isN1 (pv 7) pe_non (nomark _)) (pss_one (ps_if (PW.pt (pw_or (pt_val (pe_callB (r := rIsi K) call_isi (by rfl) T.z_isinstance (by decide +kernel) (pa_cons (pv 6) (pa_cons (pe_bltn (v := .ty "int") rfl T.z_int (by decide +kernel) rfl) pa_nil)))) (pw_or1 (pt_cmpR op_ne (pe_call (ok_p_page_of T) (hr.mono (by decide)) rfl T.g_p_page_of T.F_p_page_of.kp T.b_p_page_of .nil pass0 (pa_cons (pv 6) pa_nil)) (pv 5) (nomark _))))) (pss_one (ps_ret pe_bl)) pss_nil)) (pss_one (ps_if (pt_not (pt_val (pe_call (ok_l_like T 6) (hr.mono (by decide)) rfl T.g_l_like T.F_l_like.kp T.b_l_like .nil pass0 (pa_cons (pv 6) (pa_cons (pv 7) pa_nil))))) (pss_one (ps_ret pe_bl)) pss_nil))))))))) (pss_cons (ps_set (i := 8) sc_law.nd rfl (Or.inl rfl) (pe_op oz_addStr (pe_op oz_addStr pe_str (pe_op oz_mulS pe_str pe_int)) pe_str)) (pss_cons (ps_if (PW.pt (pw_or (pt_cmpR op_ne (pe_call (ok_p_page_of T) (hr.mono (by decide)) rfl T.g_p_page_of T.F_p_page_of.kp T.b_p_page_of .nil pass0 (pa_cons (pe_call (ok_p_read_page T) (hr.mono (by decide)) rfl T.g_p_read_page T.F_p_read_page.kp T.b_p_read_page .nil passL (pa_cons (pv 8) pa_nil)) pa_nil)) (pv 8) (nomark _)) (pw_or1 (pt_not (pt_val (pe_call (ok_l_like T 6) (hr.mono (by decide)) rfl T.g_l_like T.F_l_like.kp T.b_l_like .nil pass0 (pa_cons (pe_call (ok_l_told T) (hr.mono (by decide)) rfl T.g_l_told T.F_l_told.kp T.b_l_told .nil pass0 (pa_cons (pe_op oz_addStr (pe_op oz_addStr pe_str (pe_op oz_mulS pe_str pe_int)) pe_str) pa_nil)) (pa_cons pe_int pa_nil)))))))) (pss_one (ps_ret pe_bl)) pss_nil) (pss_one (ps_ret (pe_cmpR op_eq (pe_call (ok_p_page_of T) (hr.mono (by decide)) rfl T.g_p_page_of T.F_p_page_of.kp T.b_p_page_of .nil pass0 (pa_cons (pe_call (ok_p_read_page T) (hr.mono (by decide)) rfl T.g_p_read_page T.F_p_read_page.kp T.b_p_read_page .nil passL (pa_cons pe_str pa_nil)) pa_nil)) pe_str (nomark _)))))))))), ?_⟩
    refine at_start (ρ' := [some _, none, none, none, none, none, none, none, none, none]) rfl ?_
    walk_at "z0"
    walk_at "z"
    refine ⟨a, ns, rfl, hS, hl, fun b c H1 nb nc e1 B => ?_⟩
    clear hS hl
    walk_at "z"
    rename_i cnt H2 c0 c1 B2 f2
    refine c_range (by omega) (fun D H' => H2 D = none ∧ Fr b H2 H' ∧ Bag H' b c) (fun D i acc H' => ∃ fs, All2 (RF K H') acc fs ∧ fs.length = i ∧ ∀ f ∈ fs, GF f ∧ Bent f) (fun D H' n e _ => ⟨⟨n, e.fr b, B2.ext e⟩, [], .nil, rfl, fun _ h => by cases h⟩) (fun D i acc H3 hi Iv hD hn r => ?_) (fun D acc H3 Iv hD hn r => ?_)
    · obtain ⟨nD, f3, B3⟩ := Iv
      obtain ⟨fs, hfs, hfl, hg⟩ := r
      have nDb : D ≠ b := B2.neb nD
      have nDc : D ≠ c := B2.nec nD
      walk_at "z"
      refine ⟨rfl, ?_⟩
      walk_at "z"
      refine use_factL B3 (by decide) fun v f H4 gf rf B4 f4 lb => ?_
      have hD4 := f4 _ _ nDb hD
      refine c_put hD4 ⟨hn, by omega⟩ fun H5 f5 _ => ⟨⟨nD, fun x o hx h => f5 _ _ (fun z => by rw [z, nD] at h; cases h) (f4 _ _ hx (f3 _ _ hx h)), B4.frs nDb nDc f5⟩, fs ++ [f], ?_, by rw [List.length_append, hfl]; rfl, fun g hg' => ?_⟩
      · have go : ∀ x y, RF K H4 x y → RF K H5 x y := fun x y z => rf_map (fun z => tk_lst f5 hD4 _ _ z) z
        exact (hfs.mono fun x y z => go x y (rf_pull f4 B3 z)).snoc (go v f rf)
      · rcases List.mem_append.mp hg' with h | h
        · exact hg g h
        · rw [List.mem_singleton.mp h]
          exact ⟨gf, bent_good gf lb⟩
    obtain ⟨nD, f3, B3⟩ := Iv
    obtain ⟨fs, hfs, hfl, hg⟩ := r
    have hal := hfs.len
    have h14 : fs.length ≤ 14 := by omega
    have hrd : ∀ f ∈ fs, ReadOk f := fun f hf => read_gf (hg f hf).2 (gf_place (hg f hf).1)
    have hsm : ∀ n g, standF (fs.map some) n = some g → Sml g := fun n g h => (hrd g (all_stand h)).sml
    have hrl := rows_len fs 1
    have h16 := line16
    have hDL : SqL K H3 D acc := SqL.of hD
    clear nD f3 B2 f2 B e1 nb nc
    walk_at "z"
    rw [hal]
    refine c_range (by omega) (fun D2 H' => H3 D2 = none ∧ Ex H3 H') (fun D2 i ac H' => ac = (((rowsJ 1 fs).map (fun r : Str => r ++ Str.ofString "\n")).take i).map V.str) (fun D2 H' n e _ => ⟨⟨n, e⟩, rfl⟩) (fun D2 i ac H4 hi Iv hD2 hn2 r => ?_) (fun D2 ac H4 Iv hD2 hn2 r => ?_)
    · obtain ⟨nD2, e4⟩ := Iv
      have hi14 : i < fs.length := by omega
      obtain ⟨f, hf⟩ : ∃ f, fs[i]? = some f := ⟨_, List.getElem?_eq_getElem hi14⟩
      obtain ⟨v, hv, hrf⟩ := hfs.get' hf
      have hlog := log_small (n := (i : Nat) + 1) (by omega) (by omega)
      have hil := iTx_len hlog
      have hsf := (hrd f (List.mem_of_getElem? hf)).sml
      have htl := textF_len hsf
      walk_at "z"
      refine ⟨rfl, ?_⟩
      walk_at "z"
      refine s_rStrInt hlog ?_
      walk_at "z"
      refine s_rAddStr (by rw [sp_len]; show (iTx ((i : Nat) + 1)).length + 1 ≤ _; omega) ?_
      walk_at "z"
      refine s_ixL (e4.sqL hDL) (atI_nat hv) ?_
      walk_at "z"
      refine ⟨v, f, rfl, rf_ex e4 hrf, hsf, fun H5 e5 => ?_⟩
      refine s_rAddStr (by rw [Str_len_app, sp_len]; show (iTx ((i : Nat) + 1)).length + 1 + _ ≤ _; omega) ?_
      walk_at "z"
      refine s_rAddStr (by rw [Str_len_app, Str_len_app, sp_len, nl_len]; show (iTx ((i : Nat) + 1)).length + 1 + _ + 1 ≤ _; omega) ?_
      walk_at "z"
      refine c_put (e5 _ _ hD2) ⟨hn2, by omega⟩ fun H6 f6 _ => ⟨⟨nD2, (e4.trans e5).fr2 nD2 f6⟩, ?_⟩
      have hg6 : ((rowsJ 1 fs).map (fun r : Str => r ++ Str.ofString "\n"))[i]? = some (rowT (((i : Nat) : Int) + 1, f)) := by
        rw [List.getElem?_map, rows_get, hf, rowT_J]
        show some (rowJ ((1 + i : Nat) : Int) f ++ Str.ofString "\n") = some (rowJ (((i : Nat) : Int) + 1) f ++ Str.ofString "\n")
        rw [show ((1 + i : Nat) : Int) = ((i : Nat) : Int) + 1 from by omega]
      rw [r, List.take_succ, hg6, List.map_append]
      rfl
    obtain ⟨nD2, e4⟩ := Iv
    have hml : ((rowsJ 1 fs).map (fun r : Str => r ++ Str.ofString "\n")).length = fs.length := by rw [List.length_map, hrl]
    have htk : ((rowsJ 1 fs).map (fun r : Str => r ++ Str.ofString "\n")).take ((fs.length : Nat) : Int).toNat = (rowsJ 1 fs).map (fun r : Str => r ++ Str.ofString "\n") := List.take_of_length_le (by rw [hml]; omega)
    rw [htk] at r
    subst r
    refine s_rJoin ((rowsJ 1 fs).map (fun r : Str => r ++ Str.ofString "\n")) (.inl (SqL.of hD2)) rfl (by rw [← pairs_all fs 1]; exact rows_sum (by rw [List.length_map]; omega) hsm) ?_
    have hpg : Txt.join "" ((rowsJ 1 fs).map (fun r : Str => r ++ Str.ofString "\n")) = pageT (fs.map some) := by
      unfold pageT
      rw [pairs_all]
    rw [show Txt.join (Str.ofString "") ((rowsJ 1 fs).map (fun r : Str => r ++ Str.ofString "\n")) = pageT (fs.map some) from hpg]
    have hseg := seg_page hg h14
    have B4 := B3.ext e4
    clear hpg htk hml hD2 hn2 nD2 e4 B3 hfs hDL hD hn hal hg hrd hsm hrl
    generalize pageT (fs.map some) = whole at hseg ⊢
    walk_at "z"
    refine l_range ⟨by omega, by omega⟩ (fun i σ H' => ∃ v4 v5 v6 v7 v8 v9, σ = [some (.ref a), some (.ref b), some (.ref D), some (.str whole), v4, v5, v6, v7, v8, v9] ∧ Bag H' b c) ⟨_, _, _, _, _, _, rfl, B4⟩ (fun i σ H5 hi h => ?_) (fun σ H5 h => ?_)
    · clear B4
      obtain ⟨v4, v5, v6, v7, v8, v9, rfl, B5⟩ := h
      walk_at "z"
      refine ⟨b, c, whole, 12, 420, 14, rfl, B5, hseg, by decide, by decide, by decide, fun x H6 hx f6 B6 => ?_⟩
      walk_at "z"
      refine s_cut (fun ρ H' => ∃ x, ρ = [some (.ref a), some (.ref b), some (.ref D), some (.str whole), some (.int (i : Nat)), some (.str x), v6, v7, v8, v9] ∧ SegT 51 4580 59 x ∧ Bag H' b c) ?_ fun ρ H7 h => ?_
      · walk_at "z"
        refine ite_dec (fun h1 => ?_) (fun h1 => ?_)
        · walk_at "z"
          refine ⟨b, c, x, 25, 1460, 29, rfl, B6, hx, by decide, by decide, by decide, fun y H7 hy f7 B7 => ?_⟩
          walk_at "z"
          exact ⟨y, rfl, hy, B7⟩
        · walk_at "z"
          exact ⟨x, rfl, segT_mono hx (by decide) (by decide) (by decide), B6⟩
      clear hx B6 f6 B5
      obtain ⟨y, rfl, hy, B7⟩ := h
      obtain ⟨last, rows, hP⟩ := textP_of hy (by decide) (by decide) (by decide) (by decide)
      have hfewr := hP.few
      walk_at "z"
      refine ⟨y, last, rows, rfl, hP, fun gs hgl hgr hla r S U H8 nr nS nU e8 hR => ?_, fun j hb H8 e8 => ?_⟩
      · have hok := rows_ok hgl hgr
        obtain ⟨dx, hdx⟩ := id hR.ob
        walk_at "z"
        refine ⟨y, last, rows, rfl, hP, fun _ _ H9 e9 => ?_, fun j hb H9 e9 => (bad_not hok hla hb).elim⟩
        have hR9 := hR.ex e9
        walk_at "z"
        refine s_isNo (T.ty_Roll (e9 _ _ hdx)) (by decide +kernel) T.sk_Roll_int ?_
        walk_at "z"
        refine ⟨r, S, U, gs.map some, prefs gs gs.length, [], rfl, hR9, by rw [prefs_last, List.take_length], by rw [List.length_map]; omega, fun n g h => sml_rows hgl hgr h, fun H10 e10 => ?_⟩
        have hpg := page_is (by rw [← hla]; exact hP.sp) hgl hgr
        walk_at "z"
        refine ite_nneg hpg ?_
        walk_at "z"
        exact ⟨_, _, _, _, _, _, rfl, ((B7.ext e8).ext e9).ext e10⟩
      · walk_at "z"
        refine ⟨y, last, rows, rfl, hP, fun hok hla H9 e9 => (bad_not hok hla hb).elim, fun j' hb' H9 e9 => ?_⟩
        obtain rfl := bad_one hb hb'
        walk_at "z"
        refine use_int24 fun H10 e10 => ?_
        walk_at "z"
        exact ⟨_, _, _, _, _, _, rfl, ((B7.ext e8).ext e9).ext e10⟩
    · clear B4
      obtain ⟨v4, v5, v6, v7, v8, v9, rfl, B5⟩ := h
      walk_at "z"
      refine s_rMulS (by unfold MulOk; decide +kernel) ?_
      try walk_at "z"
      refine s_rAddStr (sz (by decide +kernel)) ?_
      try walk_at "z"
      refine s_rAddStr (sz (by decide +kernel)) ?_
      try walk_at "z"
      refine ⟨bigP, "", [bigR], rfl, bigP_P.len, bigP_P.sp, bigP_P.few, bigP_P.row, fun gs hgl hgr _ r S U H6 nr nS nU e6 hR => ?_, fun j hj hbad H6 d e6 hd => (bad_not bigP_rows rfl ⟨hj, hbad⟩).elim⟩
      have hgl1 : gs.length = 1 := hgl
      try walk_at "z"
      refine ⟨r, S, U, gs.map some, prefs gs gs.length, [], rfl, hR, by rw [prefs_last, List.take_length], by rw [List.length_map]; omega, fun n g h => sml_rows hgl hgr h, fun H7 e7 => ?_⟩
      have hpg := page_is bigP_P.sp hgl hgr
      try walk_at "z"
      refine ite_nneg hpg ?_
      walk_at "z"
      refine s_rMulS (by unfold MulOk; decide +kernel) ?_
      try walk_at "z"
      refine s_rAddStr (sz (by decide +kernel)) ?_
      try walk_at "z"
      refine s_rAddStr (sz (by decide +kernel)) ?_
      try walk_at "z"
      refine ⟨bigP1, "", [bigR1], rfl, bigP1_P, fun gs hgl hgr _ r S U H8 nr nS nU e8 hR => (bigR1_no _ (hgr 0 bigR1 (gs[0]'(by rw [hgl]; decide)) rfl (List.getElem?_eq_getElem _))).elim, fun j hb H8 e8 => ?_⟩
      obtain rfl := bad_one hb bigP1_bad
      try walk_at "z"
      refine use_int24 (x := 0) fun H9 e9 => ?_
      try walk_at "z"
      refine ⟨"", "", [], rfl, none_P.len, none_P.sp, none_P.few, none_P.row, fun gs hgl hgr _ r S U H10 nr nS nU e10 hR => ?_, fun j hj hbad H10 d e10 hd => (bad_not (rows := []) (last := "") (fun i row hi => absurd hi (Nat.not_lt_zero _)) rfl ⟨hj, hbad⟩).elim⟩
      have hgl0 : gs.length = 0 := hgl
      try walk_at "z"
      refine ⟨r, S, U, gs.map some, prefs gs gs.length, [], rfl, hR, by rw [prefs_last, List.take_length], by rw [List.length_map]; omega, fun n g h => sml_rows hgl hgr h, fun H11 e11 => ?_⟩
      have hpg2 := page_is none_P.sp hgl hgr
      rw [hpg2]
      walk_at "z"
      exact k _

end
theorem walk {l : PySem.W.OpenLaw} {q : Program} {loose : List Str} {XP : (Str → Option Value) → Heap → Prop} {YP : World → Heap → Prop} {d : DefRec} {K : Params → PySem.W.Frag} (hn : l.most = some 63) (hdf : d.params.defaults = [])
    (hY : ∀ (w : World) (h : Heap), YP w h → (K w.params).In h)
    (F : ∀ (w : World) (mg : Str → Option Value) (fa : Addr) (h : Heap), (K w.params).In h → h.Ns mainGlobals mg → mg d.name = some (.ref fa) →
      ∃ fd : FuncData, (∀ (s : Shared) (u : Value), BindsTo s fd ⟨[u], []⟩ [("_law_script", u)]) ∧ ∀ base : Heap, (K w.params).In base → base.Ns mainGlobals mg → FnOk l.prog w (K w.params) mg base CX0 16 fa fd ["_law_script"] (spLaw (K w.params))) :
    PySem.W.WalkO q loose XP YP l.row.toRowW d [] (fun f vs => PySem.call f vs) :=
  L2.walk_of (n := 63) (k := 16) (x := "_law_script") (CX := fun _ => CX0) (sp := fun w => spLaw (K w.params)) hn (by decide) hdf ⟨rfl, by decide, by decide⟩ hY F (fun _ _ a ns hl _ hS => ⟨a, ns, rfl, hS, hl, fun _ => rfl⟩) fun _ _ _ _ _ z => z
end Q
open PySem PySem.W PyProof.Rows in
set_option maxRecDepth 100000 in
set_option maxHeartbeats 0 in
theorem PySem.Challenge.cw_pikeroll_k31_texts_that_are_no_pages_holds : PySem.Challenge.rw_pikeroll_k31_texts_that_are_no_pages.Holds := by
  refine Q.hlaw (Q.hhead ?hc)
  refine Q.walk (l := PySem.Challenge.rw_pikeroll_k31_texts_that_are_no_pages) rfl rfl (fun w h Y => PySem.W.kIn_of Y) ?F
  case F =>
    intro w mg fa h KX G hmg
    obtain ⟨T, fd, hb, F⟩ := Q.hT w mg fa h KX G hmg
    exact ⟨fd, hb, fun base _ _ => Q.ok_law T F⟩
#print axioms PySem.Challenge.cw_pikeroll_k31_texts_that_are_no_pages_holds
