import PyProof.Rows.All
import Wide.All
import OpenK.AllK
import Wide.FinOn
import HandS.ForMost
import HandS.Wide
import HandS.IsInst
import HandS.FStr
import HandS.Defaults
import HandS.StrMore
import HandS.Style
import HandS.TupAny
import HandS.RaiseMore
import HandS.Walk
import HandS.Steps
import HandS.Evl
import HandS.ForExc
import HandS.TryMany
import HandS.TryOnly
import HandS.Replace
import PyProof.Rows.StrPadFill
import HandS.TupLe
import HandS.Strs
import HandS.More
import PyProof.Rows.SetFrom
import KE.KStar
import HandS.OwnEq
import HandS.MakeKw
import HandS.MakeKwOnly
import KE.KCallOwn
import KE.KFmtOwn
import PyProof.InstEq
import PyProof.CallFns
import PyProof.EqAt
import PyProof.SeqRoads2
import PyProof.WalksMore
import PyProof.ZipIter
import HandS.Zip
import KE.GoesEnumKw
import PyProof.Rows.CallKwBuiltin
import HandS.SortKw
import HandS.SortRule
import HandS.TupSets
import HandS.SetBool
import HandS.DictComp
import HandS.Deep
import HandS.Dict
import KE.KExcSuper
import KE.KSuper
import HandS.Exc
import HandS.ExcInit
import HandS.Nested
import HandS.ClsMeth
import PyProof.Rows.FactsExc_KeyError
import PyProof.ExcBaseAll.LookupError
import KE.KExcIs
import KE.KTypeName
import HandS.Words
import HandS.ExcField
import HandS.RaiseFrom
import KE.RegKSuper
import HandS.Iter
import HandS.WrittenGet
import HandS.Star
import HandS.ExcOwn
import PySem.Challenge.RW_pikeroll_k16_gates_that_bar_and_ways_rou
set_option Elab.async false
set_option linter.all false
set_option maxRecDepth 100000
/-! The verifier's own layer: readings step by step, heaps that grow, the drawing bag. -/
namespace Z
open PySem L2

/-- a new object -/
def NewO (o : HO) (H : Hp) (Q : VK) : Prop := ∀ p, H p = none → Q (.ref p) (upd H p o)
/-- all that stood stands -/
def Ex (H H' : Hp) : Prop := ∀ a o, H a = some o → H' a = some o
theorem Ex.new {H : Hp} {p : Addr} {o : HO} (h : H p = none) : Ex H (upd H p o) := fun a u e => by
  rw [upd_ne (ne_of_none e h)]
  exact e
theorem s_new {H : Hp} {Q : VK} {o : HO} (k : ∀ p H', H p = none → Ex H H' → H' p = some o → Q (.ref p) H') : NewO o H Q := fun p hp => k p _ hp (Ex.new hp) upd_same
theorem s_newS {H : Hp} {Q : VK} {o : HO} {n : Nat} (h : n ≤ sizeLine) (k : ∀ p H', H p = none → Ex H H' → H' p = some o → Q (.ref p) H') : n ≤ sizeLine ∧ NewO o H Q := ⟨h, s_new k⟩
/-! ### steps of a reading -/
section
variable {K : PySem.W.Frag} {σ σ' : L2.St} {H H' : Hp} {Q : VK} {ta tb tc te : TE} {t u : TT} {nx bk ct : L2.St → Hp → Prop} {rt : VK} {ts us : TS} {i j : Nat} {v x y : V} {r r' : R2}
theorem s_var (h : σ[i]? = some (some v)) (k : Q v H) : tVar i σ H Q := ⟨v, h, k⟩
theorem s_C (k : Q v H) : tC v σ H Q := k
theorem s_op (k : ta σ H fun x H1 => tb σ H1 fun y H2 => r x y H2 Q) : tOp r ta tb σ H Q := k
theorem s_un {r : V → Hp → VK → Prop} (k : ta σ H fun x H1 => r x H1 Q) : tUn r ta σ H Q := k
theorem s_rI {C : Int → Int → Prop} {g : Int → Int → V} {a b : Int} (hc : C a b) (k : Q (g a b) H) : rI C g (.int a) (.int b) H Q := ⟨a, b, rfl, rfl, hc, k⟩
theorem s_rI0 {g : Int → Int → V} {a b : Int} (k : Q (g a b) H) : rI0 g (.int a) (.int b) H Q := ⟨a, b, rfl, rfl, k⟩
theorem s_rU {g : Int → V} {a : Int} (k : Q (g a) H) : rU g (.int a) H Q := ⟨a, rfl, k⟩
theorem s_rEq (h : scal x y = true) (k : Q (.bl (decide (x = y))) H) : rEq x y H Q := ⟨h, k⟩
theorem s_rNe (h : scal x y = true) (k : Q (.bl (!decide (x = y))) H) : rNe x y H Q := ⟨h, k⟩
theorem s_rEqI {a b : Int} (k : Q (.bl (decide (a = b))) H) : rEq (.int a) (.int b) H Q := ⟨rfl, by
  have e : decide (V.int a = V.int b) = decide (a = b) := by simp
  rw [e]; exact k⟩
theorem s_rNeI {a b : Int} (k : Q (.bl (!decide (a = b))) H) : rNe (.int a) (.int b) H Q := ⟨rfl, by
  have e : decide (V.int a = V.int b) = decide (a = b) := by simp
  rw [e]; exact k⟩
theorem s_rEqS {a b : Str} (k : Q (.bl (decide (a = b))) H) : rEq (.str a) (.str b) H Q := ⟨rfl, by
  have e : decide (V.str a = V.str b) = decide (a = b) := by simp
  rw [e]; exact k⟩
theorem s_rNeS {a b : Str} (k : Q (.bl (!decide (a = b))) H) : rNe (.str a) (.str b) H Q := ⟨rfl, by
  have e : decide (V.str a = V.str b) = decide (a = b) := by simp
  rw [e]; exact k⟩
theorem s_rEqB {a b : Bool} (k : Q (.bl (a == b)) H) : rEq (.bl a) (.bl b) H Q := ⟨rfl, by
  have e : decide (V.bl a = V.bl b) = (a == b) := by cases a <;> cases b <;> rfl
  rw [e]; exact k⟩
theorem s_rNeB {a b : Bool} (k : Q (.bl (a != b)) H) : rNe (.bl a) (.bl b) H Q := ⟨rfl, by
  have e : (!decide (V.bl a = V.bl b)) = (a != b) := by cases a <;> cases b <;> rfl
  rw [e]; exact k⟩
theorem s_tB {R : Bool → Hp → Prop} (k : te σ H fun x H1 => ∃ c, x = .bl c ∧ R c H1) : tB te σ H R := k
theorem s_tTest {R : Bool → Hp → Prop} (k : te σ H fun x H1 => ∃ c, x = .bl c ∧ R c H1) : tTest te σ H R := k
theorem s_bl {c : Bool} {R : Bool → Prop} (k : R c) : ∃ c', V.bl c = .bl c' ∧ R c' := ⟨c, rfl, k⟩
theorem s_and {R : Bool → Hp → Prop} (k : t σ H fun c H1 => if c = true then u σ H1 R else R false H1) : tAnd t u σ H R := k
theorem s_or {R : Bool → Hp → Prop} (k : t σ H fun c H1 => if c = true then R true H1 else u σ H1 R) : tOr t u σ H R := k
theorem s_not {R : Bool → Hp → Prop} (k : t σ H fun c H1 => R (!c) H1) : tNot t σ H R := k
theorem s_andV (k : ta σ H fun x H1 => ∃ c, x = .bl c ∧ if c = true then tb σ H1 Q else Q (.bl false) H1) : tAndV ta tb σ H Q := k
theorem s_orV (k : ta σ H fun x H1 => ∃ c, x = .bl c ∧ if c = true then Q (.bl true) H1 else tb σ H1 Q) : tOrV ta tb σ H Q := k
theorem s_notV (k : ta σ H fun x H1 => ∃ c, x = .bl c ∧ Q (.bl (!c)) H1) : tNotV ta σ H Q := k
theorem s_ifE (k : t σ H fun c H1 => if c = true then ta σ H1 Q else tb σ H1 Q) : tIf t ta tb σ H Q := k
theorem s_chain (k : ta σ H fun x H1 => tb σ H1 fun y H2 => r x y H2 fun z H3 => ∃ c, z = .bl c ∧ (if c = true then tc σ H3 fun w H4 => r' y w H4 Q else Q (.bl false) H3)) : tChain r r' ta tb tc σ H Q := k
theorem s_nil {R : List V → Hp → Prop} (k : R [] H) : tNil σ H R := k
theorem s_cons {tr : TA} {R : List V → Hp → Prop} (k : ta σ H fun x H1 => tr σ H1 fun xs H2 => R (x :: xs) H2) : tCons ta tr σ H R := k
theorem s_CB {r : List V → Hp → VK → Prop} {tr : TA} (k : tr σ H fun vs H1 => r vs H1 Q) : tCB r tr σ H Q := k
theorem s_call {sp : Sp} {dvs : List V} {E : XK} {tr : TA} (k : tr σ H fun vs H1 => sp (vs ++ dvs) H1 Q E) : tCall sp dvs E tr σ H Q := k
abbrev FldR (K : PySem.W.Frag) (f : Str) (x : V) (H : Hp) (Q : VK) : Prop := ∃ a C dx fs v, x = .ref a ∧ H a = some (.ins C dx fs) ∧ Cls K C ∧ NoAttr K C f ∧ fs.lookup f = some v ∧ Q v H
theorem s_fld {f : Str} (k : ta σ H fun x H1 => FldR K f x H1 Q) : tFld K ta f σ H Q := k
theorem s_sl {r : V → Option Int → Option Int → Hp → VK → Prop} {tl th : TO} (k : te σ H fun x H1 => tl σ H1 fun l H2 => th σ H2 fun u H3 => r x l u H3 Q) : tSl r te tl th σ H Q := k
theorem s_noPart {R : Option Int → Hp → Prop} (k : R none H) : tNoPart σ H R := k
def PartI (x : V) (R : Option Int → Hp → Prop) (H : Hp) : Prop := ∃ a, x = .int a ∧ R (some a) H
theorem s_part {R : Option Int → Hp → Prop} (k : te σ H fun x H1 => PartI x R H1) : tPart te σ H R := k
theorem s_partI {a : Int} {R : Option Int → Hp → Prop} (k : R (some a) H) : PartI (.int a) R H := ⟨a, rfl, k⟩
theorem s_bm {T : String} {r : V → List V → Hp → VK → Prop} {tr : TA} (k : ta σ H fun x H1 => tyV K T x H1 ∧ tr σ H1 fun xs H2 => r x xs H2 Q) : tBM K T r ta tr σ H Q := k
theorem s_bm0 {T : String} {r : V → List V → Hp → VK → Prop} (k : ta σ H fun x H1 => tyV K T x H1 ∧ r x [] H1 Q) : tBM0 K T r ta σ H Q := k
theorem s_m0 {r : V → List V → Hp → VK → Prop} (k : ta σ H fun x H1 => (∃ a, x = .str a) ∧ r x [] H1 Q) : tM0 r ta σ H Q := k
theorem s_m1 {r : V → List V → Hp → VK → Prop} (k : ta σ H fun x H1 => (∃ a, x = .str a) ∧ tb σ H1 fun y H2 => r x [y] H2 Q) : tM1 r ta tb σ H Q := k
theorem at_start {D : Ends} {ρ ρ' : L2.St} (e : ρ = ρ') (k : ts D ρ' H) : ts D ρ H := by
  rw [e]
  exact k
theorem s_isStr {z : Str} {R : Prop} (k : R) : (∃ a, V.str z = .str a) ∧ R := ⟨⟨z, rfl⟩, k⟩
/-! statements: the ends stay written out -/
theorem s_next (k : nx σ H) : tNext ⟨nx, rt, bk, ct⟩ σ H := k
theorem s_seq (k : ts ⟨us ⟨nx, rt, bk, ct⟩, rt, bk, ct⟩ σ H) : tSeq ts us ⟨nx, rt, bk, ct⟩ σ H := k
theorem s_cut (M : L2.St → Hp → Prop) (h : ts ⟨M, rt, bk, ct⟩ σ H) (k : ∀ ρ H', M ρ H' → us ⟨nx, rt, bk, ct⟩ ρ H') : Evl.tCut ts us ⟨nx, rt, bk, ct⟩ σ H := ⟨M, h, k⟩
theorem s_break (k : bk σ H) : tBreak ⟨nx, rt, bk, ct⟩ σ H := k
theorem s_cont (k : ct σ H) : tCont ⟨nx, rt, bk, ct⟩ σ H := k
theorem s_drop (k : te σ H fun _ H1 => nx σ H1) : tDrop te ⟨nx, rt, bk, ct⟩ σ H := k
theorem s_ret (k : te σ H rt) : tRet te ⟨nx, rt, bk, ct⟩ σ H := k
theorem s_retN (k : rt .non H) : tRetN ⟨nx, rt, bk, ct⟩ σ H := k
theorem s_ifS (k : t σ H fun b H1 => if b = true then ts ⟨nx, rt, bk, ct⟩ σ H1 else us ⟨nx, rt, bk, ct⟩ σ H1) : tIfS t ts us ⟨nx, rt, bk, ct⟩ σ H := k
theorem s_set (k : te σ H fun x H1 => nx (σ.set i (some x)) H1) : tAsg te (gName i) ⟨nx, rt, bk, ct⟩ σ H := k
theorem s_asg {g : TG} (k : te σ H fun x H1 => g x σ H1 nx) : tAsg te g ⟨nx, rt, bk, ct⟩ σ H := k
theorem s_par {tr : TA} (k : tr σ H fun vs H1 => ∃ v w, vs = [v, w] ∧ nx ((σ.set i (some v)).set j (some w)) H1) : tPar i j tr ⟨nx, rt, bk, ct⟩ σ H := k
theorem s_parI {v w : V} {R : V → V → Prop} (k : R v w) : ∃ v' w', [v, w] = [v', w'] ∧ R v' w' := ⟨v, w, rfl, k⟩
theorem s_gName {R : L2.St → Hp → Prop} (k : R (σ.set i (some v)) H) : gName i v σ H R := k
theorem s_gSub {tS : TSet} {R : L2.St → Hp → Prop} (k : ta σ H fun o H1 => tb σ H1 fun i H2 => tS o i v H2 fun H3 => R σ H3) : gSub ta tb tS v σ H R := k
theorem s_gTup {n : Nat} {tg : TGs} {a : Addr} {xs : List V} {R : L2.St → Hp → Prop} (h : SqT K H a xs) (hn : xs.length = n) (k : tg xs σ H R) : gTup K n tg (.ref a) σ H R := ⟨a, xs, rfl, h, hn, k⟩
theorem s_gCons {tg : TG} {tgs : TGs} {xs : List V} {R : L2.St → Hp → Prop} (k : tg v σ H fun σ1 H1 => tgs xs σ1 H1 R) : gCons tg tgs (v :: xs) σ H R := ⟨v, xs, rfl, k⟩
theorem s_gNil {R : L2.St → Hp → Prop} (k : R σ H) : gNil [] σ H R := ⟨rfl, k⟩
theorem s_tup {tr : TA} (k : tr σ H fun xs H1 => xs.length ≤ sizeLine ∧ NewO (.tup xs) H1 Q) : tTup tr σ H Q := k
theorem s_lst {tr : TA} (k : tr σ H fun xs H1 => xs.length ≤ sizeLine ∧ NewO (.lst xs) H1 Q) : tLst tr σ H Q := k
theorem s_ixL {p : Addr} {xs : List V} {a : Int} (h : SqL K H p xs) (e : atI xs a = some v) (k : Q v H) : rIxL K (.ref p) (.int a) H Q := ⟨p, xs, a, v, rfl, rfl, h, e, k⟩
theorem s_ixT {p : Addr} {xs : List V} {a : Int} (h : SqT K H p xs) (e : atI xs a = some v) (k : Q v H) : rIxT K (.ref p) (.int a) H Q := ⟨p, xs, a, v, rfl, rfl, h, e, k⟩
theorem s_setL {p : Addr} {xs : List V} {a : Int} {m : Nat} {R : Hp → Prop} (h : H p = some (.lst xs)) (e : ixN xs.length a = some m) (k : R (upd H p (.lst (xs.set m v)))) : rSetL (.ref p) (.int a) v H R := ⟨p, xs, a, m, rfl, rfl, h, e, k⟩
theorem s_slL {a : Addr} {xs : List V} {lo hi : Option Int} (h : SqL K H a xs) (k : NewO (.lst (cutV xs lo hi)) H Q) : rSlL K (.ref a) lo hi H Q := ⟨a, xs, rfl, h, k⟩
theorem s_slS {z : Str} {lo hi : Option Int} (h : z.length ≤ sizeLine) (k : Q (.str (cutS z lo hi)) H) : rSlS (.str z) lo hi H Q := ⟨z, rfl, h, k⟩
theorem s_len {p : Addr} {xs : List V} (h : SqL K H p xs ∨ SqT K H p xs) (k : Q (.int xs.length) H) : ∃ q ys, [V.ref p] = [V.ref q] ∧ (SqL K H q ys ∨ SqT K H q ys) ∧ Q (.int ys.length) H := ⟨p, xs, rfl, h, k⟩
/-! ifs -/
theorem ite_both {c : Bool} {A B : Prop} (h1 : c = true → A) (h2 : c = false → B) : if c = true then A else B := by
  cases c with
  | true => rw [if_pos rfl]; exact h1 rfl
  | false => rw [if_neg (by decide)]; exact h2 rfl
theorem ite_dec {p A B : Prop} {ip : Decidable p} (h1 : p → A) (h2 : ¬ p → B) : if decide p = true then A else B :=
  ite_both (fun h => h1 (of_decide_eq_true h)) (fun h => h2 (of_decide_eq_false h))
theorem ite_ndec {p A B : Prop} {ip : Decidable p} (h1 : ¬ p → A) (h2 : p → B) : if (!decide p) = true then A else B :=
  ite_both (fun h => h1 (by simpa using h)) (fun h => h2 (by simpa using h))
theorem ite_t {A B : Prop} (h : A) : if true = true then A else B := by rw [if_pos rfl]; exact h
theorem ite_f {A B : Prop} (h : B) : if false = true then A else B := by rw [if_neg (by decide)]; exact h
theorem ite_pos {p A B : Prop} {ip : Decidable p} (hp : p) (h : A) : if decide p = true then A else B := by rw [if_pos (decide_eq_true hp)]; exact h
theorem ite_neg {p A B : Prop} {ip : Decidable p} (hp : ¬ p) (h : B) : if decide p = true then A else B := by rw [if_neg (by simpa using hp)]; exact h
theorem ite_npos {p A B : Prop} {ip : Decidable p} (hp : ¬ p) (h : A) : if (!decide p) = true then A else B := by rw [if_pos (by simpa using hp)]; exact h
theorem ite_nneg {p A B : Prop} {ip : Decidable p} (hp : p) (h : B) : if (!decide p) = true then A else B := by rw [if_neg (by simpa using hp)]; exact h
/-! loops -/
/-- the loop's word, said for any walk: J, its turns n, G what stands still, Y what it yields -/
def Loops (J : It) (g : TG) (ts : TS) (nx : L2.St → Hp → Prop) (rt : VK) (σ : L2.St) (H : Hp) : Prop := ∃ W : Nat → Nat → L2.St → Hp → Prop, (∃ m, W 0 m σ H) ∧ ∀ i m σ H, W i m σ H →
      (J.stop i H ∧ nx σ H) ∨ (J.go i H ∧ ∃ N : L2.St → Hp → Prop, (∀ σ' H', N σ' H' → ∃ m', m' < m ∧ W (i + 1) m' σ' H') ∧ ∀ x H', J.yld i H x H' → g x σ H' fun σ2 H2 => ts ⟨N, rt, nx, N⟩ σ2 H2)
theorem s_for {wi : TI} {g : TG} (k : wi σ H fun J H1 => Loops J g ts nx rt σ H1) : tFor wi g ts ⟨nx, rt, bk, ct⟩ σ H := k
theorem s_iRng1 {tr : TA} {R : It → Hp → Prop} (k : tr σ H fun vs H1 => ∃ j : Int, vs = [.int j] ∧ -(2 ^ 62) ≤ j ∧ j < 2 ^ 62 ∧ R (Itr 0 j.toNat) H1) : iRng1 tr σ H R := k
theorem s_iRng2 {tr : TA} {R : It → Hp → Prop} (k : tr σ H fun vs H1 => ∃ i j : Int, vs = [.int i, .int j] ∧ (-(2 ^ 62) ≤ i ∧ i < 2 ^ 62 ∧ -(2 ^ 62) ≤ j ∧ j < 2 ^ 62) ∧ R (Itr i (j - i).toNat) H1) : iRng2 tr σ H R := k
theorem s_iList {R : It → Hp → Prop} (k : te σ H fun x H1 => ∃ a, x = .ref a ∧ (∃ xs, SqL K H1 a xs) ∧ R (Itl K a) H1) : iList K te σ H R := k
theorem s_iTup {R : It → Hp → Prop} (k : te σ H fun x H1 => ∃ a, x = .ref a ∧ (∃ xs, SqT K H1 a xs) ∧ R (Itt K a) H1) : iTup K te σ H R := k
theorem s_iStr {R : It → Hp → Prop} (k : te σ H fun v H1 => ∃ x, v = .str x ∧ R (Its x) H1) : iStr te σ H R := k
theorem s_iEnum {tr : TA} {R : It → Hp → Prop} (k : tr σ H fun vs H1 => ∃ a xs, vs = [.ref a] ∧ SqL K H1 a xs ∧ R (Ite K a) H1) : iEnum K tr σ H R := k
theorem loops_of {J : It} {n : Nat} {G : Hp → Prop} {Y : Nat → Hp → V → Hp → Prop} {g : TG} (w : Walk J n G Y) (Pv : Nat → L2.St → Hp → Prop) (h0 : Pv 0 σ H) (hG : ∀ i σ H, i ≤ n → Pv i σ H → G H)
    (hs : ∀ i x σ H H', i < n → Pv i σ H → Y i H x H' → g x σ H' fun σ2 H2 => ts ⟨Pv (i + 1), rt, nx, Pv (i + 1)⟩ σ2 H2) (hd : ∀ σ H, Pv n σ H → nx σ H) : Loops J g ts nx rt σ H :=
  for_it (D := ⟨nx, rt, fun _ _ => False, fun _ _ => False⟩) w Pv h0 hG hs hd
/-- range(n), as it stands behind the arguments -/
theorem l_range {g : TG} {n : Int} (b : -(2 ^ 62) ≤ n ∧ n < 2 ^ 62) (Pv : Nat → L2.St → Hp → Prop) (h0 : Pv 0 σ H)
    (hs : ∀ (i : Nat) σ H, (i : Int) < n → Pv i σ H → g (.int (i : Int)) σ H fun σ2 H2 => ts ⟨Pv (i + 1), rt, nx, Pv (i + 1)⟩ σ2 H2) (hd : ∀ σ H, Pv n.toNat σ H → nx σ H) :
    ∃ j : Int, [V.int n] = [.int j] ∧ -(2 ^ 62) ≤ j ∧ j < 2 ^ 62 ∧ Loops (Itr 0 j.toNat) g ts nx rt σ H :=
  ⟨n, rfl, b.1, b.2, loops_of walk_range Pv h0 (fun _ _ _ _ _ => trivial) (fun i x σ H H' hi p y => by
    obtain ⟨e, y⟩ := y
    subst e y
    have e0 : (0 : Int) + (i : Int) = (i : Int) := Int.zero_add _
    dsimp only
    rw [e0]
    exact hs i σ _ (by omega) p) hd⟩
/-- range(lo, hi) -/
theorem l_range2 {g : TG} {lo n : Int} (b : -(2 ^ 62) ≤ lo ∧ lo < 2 ^ 62 ∧ -(2 ^ 62) ≤ n ∧ n < 2 ^ 62) (Pv : Nat → L2.St → Hp → Prop) (h0 : Pv 0 σ H)
    (hs : ∀ (i : Nat) σ H, lo + (i : Int) < n → Pv i σ H → g (.int (lo + (i : Int))) σ H fun σ2 H2 => ts ⟨Pv (i + 1), rt, nx, Pv (i + 1)⟩ σ2 H2) (hd : ∀ σ H, Pv (n - lo).toNat σ H → nx σ H) :
    ∃ i j : Int, [V.int lo, V.int n] = [.int i, .int j] ∧ (-(2 ^ 62) ≤ i ∧ i < 2 ^ 62 ∧ -(2 ^ 62) ≤ j ∧ j < 2 ^ 62) ∧ Loops (Itr i (j - i).toNat) g ts nx rt σ H :=
  ⟨lo, n, rfl, b, loops_of walk_range Pv h0 (fun _ _ _ _ _ => trivial) (fun i x σ H H' hi p y => by
    obtain ⟨e, y⟩ := y
    subst e y
    exact hs i σ _ (by omega) p) hd⟩
/-- a list -/
theorem l_list {g : TG} {a : Addr} (xs : List V) (Pv : Nat → L2.St → Hp → Prop) (h0 : Pv 0 σ H) (hG : ∀ i σ H, i ≤ xs.length → Pv i σ H → SqL K H a xs)
    (hs : ∀ i x σ H, xs[i]? = some x → Pv i σ H → g x σ H fun σ2 H2 => ts ⟨Pv (i + 1), rt, nx, Pv (i + 1)⟩ σ2 H2) (hd : ∀ σ H, Pv xs.length σ H → nx σ H) :
    ∃ a', V.ref a = .ref a' ∧ (∃ xs, SqL K H a' xs) ∧ Loops (Itl K a') g ts nx rt σ H :=
  ⟨a, rfl, ⟨xs, hG 0 σ H (Nat.zero_le _) h0⟩, loops_of walk_list Pv h0 hG (fun i x σ H H' hi p y => by
    obtain ⟨e, y⟩ := y
    subst e
    exact hs i x σ _ y p) hd⟩
/-- a tuple -/
theorem l_tup {g : TG} {a : Addr} (xs : List V) (Pv : Nat → L2.St → Hp → Prop) (h0 : Pv 0 σ H) (hG : ∀ i σ H, i ≤ xs.length → Pv i σ H → SqT K H a xs)
    (hs : ∀ i x σ H, xs[i]? = some x → Pv i σ H → g x σ H fun σ2 H2 => ts ⟨Pv (i + 1), rt, nx, Pv (i + 1)⟩ σ2 H2) (hd : ∀ σ H, Pv xs.length σ H → nx σ H) :
    ∃ a', V.ref a = .ref a' ∧ (∃ xs, SqT K H a' xs) ∧ Loops (Itt K a') g ts nx rt σ H :=
  ⟨a, rfl, ⟨xs, hG 0 σ H (Nat.zero_le _) h0⟩, loops_of walk_tup Pv h0 hG (fun i x σ H H' hi p y => by
    obtain ⟨e, y⟩ := y
    subst e
    exact hs i x σ _ y p) hd⟩
/-- a text -/
theorem l_str {g : TG} {z : Str} (Pv : Nat → L2.St → Hp → Prop) (h0 : Pv 0 σ H)
    (hs : ∀ i c σ H, z.cps[i]? = some c → Pv i σ H → g (.str ⟨#[c]⟩) σ H fun σ2 H2 => ts ⟨Pv (i + 1), rt, nx, Pv (i + 1)⟩ σ2 H2) (hd : ∀ σ H, Pv z.cps.size σ H → nx σ H) :
    ∃ x, V.str z = .str x ∧ Loops (Its x) g ts nx rt σ H :=
  ⟨z, rfl, loops_of walk_str Pv h0 (fun _ _ _ _ _ => trivial) (fun i x σ H H' hi p y => by
    obtain ⟨e, c, y1, y2⟩ := y
    subst e y2
    exact hs i c σ _ y1 p) hd⟩
/-- a while's turn: behind it the word holds at a lesser measure -/
def WhB (W : Nat → L2.St → Hp → Prop) (m : Nat) (ts : TS) (rt : VK) (nx : L2.St → Hp → Prop) (σ : L2.St) (H : Hp) : Prop := ∃ N : L2.St → Hp → Prop, (∀ σ' H', N σ' H' → ∃ m', m' < m ∧ W m' σ' H') ∧ ts ⟨N, rt, nx, N⟩ σ H
theorem s_whB {W : Nat → L2.St → Hp → Prop} {m : Nat} (k : ts ⟨fun σ' H' => ∃ m', m' < m ∧ W m' σ' H', rt, nx, fun σ' H' => ∃ m', m' < m ∧ W m' σ' H'⟩ σ H) : WhB W m ts rt nx σ H := ⟨_, fun _ _ h => h, k⟩
/-- a while: its word and its measure -/
theorem l_while (W : Nat → L2.St → Hp → Prop) (h0 : ∃ m, W m σ H)
    (hs : ∀ m σ H, W m σ H → t σ H fun b H1 => if b = true then WhB W m ts rt nx σ H1 else nx σ H1) : tWhile t ts ⟨nx, rt, bk, ct⟩ σ H := ⟨W, h0, hs⟩
end

/-! ### heaps -/
/-- all but what stands at b -/
def Fr (b : Addr) (H H' : Hp) : Prop := ∀ a o, a ≠ b → H a = some o → H' a = some o
theorem Ex.refl {H : Hp} : Ex H H := fun _ _ h => h
theorem Ex.trans {H H1 H2 : Hp} (a : Ex H H1) (b : Ex H1 H2) : Ex H H2 := fun x o h => b x o (a x o h)
theorem Ex.mut {H H' : Hp} {p : Addr} {o : HO} (e : Ex H H') (h : H p = none) : Ex H (upd H' p o) := fun a u ha => by
  rw [upd_ne (ne_of_none ha h)]
  exact e a u ha
theorem Ex.back {H H' : Hp} {p : Addr} (e : Ex H H') (h : H' p = none) : H p = none := by
  cases h1 : H p with
  | none => rfl
  | some o =>
    rw [e p o h1] at h
    cases h
theorem Ex.fr {H H' : Hp} (b : Addr) (e : Ex H H') : Fr b H H' := fun a o _ h => e a o h
theorem Fr.refl {b : Addr} {H : Hp} : Fr b H H := fun _ _ _ h => h
theorem Fr.trans {b : Addr} {H H1 H2 : Hp} (x : Fr b H H1) (y : Fr b H1 H2) : Fr b H H2 := fun a o n h => y a o n (x a o n h)
theorem Fr.upd {b : Addr} {H : Hp} {o : HO} : Fr b H (upd H b o) := fun a u n h => by
  rw [upd_ne n]
  exact h
theorem Ex.sqL {K : PySem.W.Frag} {H H' : Hp} {a : Addr} {xs : List V} (e : Ex H H') (h : SqL K H a xs) : SqL K H' a xs := by
  rcases h with (h | ⟨o, h⟩) | h
  · exact .inl (.inl (e _ _ h))
  · exact .inl (.inr ⟨o, e _ _ h⟩)
  · exact .inr h
theorem Ex.sqT {K : PySem.W.Frag} {H H' : Hp} {a : Addr} {xs : List V} (e : Ex H H') (h : SqT K H a xs) : SqT K H' a xs := by
  rcases h with (h | ⟨o, h⟩) | h
  · exact .inl (.inl (e _ _ h))
  · exact .inl (.inr ⟨o, e _ _ h⟩)
  · exact .inr h
theorem sqL_ex {K : PySem.W.Frag} {H H' : Hp} {a : Addr} {xs : List V} (h : SqL K H a xs) (e : Ex H H') : SqL K H' a xs := e.sqL h
theorem sqT_ex {K : PySem.W.Frag} {H H' : Hp} {a : Addr} {xs : List V} (h : SqT K H a xs) (e : Ex H H') : SqT K H' a xs := e.sqT h
/-- the heap without what stands at b -/
def wo (b : Addr) (H : Hp) : Hp := fun a => if a = b then none else H a
theorem wo_some {b a : Addr} {H : Hp} {o : HO} (h : wo b H a = some o) : a ≠ b ∧ H a = some o := by
  unfold wo at h
  split at h
  · cases h
  · exact ⟨by assumption, h⟩
theorem wo_mk {b a : Addr} {H : Hp} {o : HO} (n : a ≠ b) (h : H a = some o) : wo b H a = some o := by
  unfold wo
  rw [if_neg n]
  exact h
theorem wo_ex {b : Addr} {H : Hp} : Ex (wo b H) H := fun _ _ h => (wo_some h).2
theorem Fr.wo {b : Addr} {H H' : Hp} (e : Fr b H H') : Ex (Z.wo b H) (Z.wo b H') := fun a o h => wo_mk (wo_some h).1 (e a o (wo_some h).1 (wo_some h).2)
theorem Ex.wo {b : Addr} {H H' : Hp} (e : Ex H H') : Ex (Z.wo b H) (Z.wo b H') := (e.fr b).wo
theorem ex_at {H H' : Hp} {a : Addr} {o : HO} (e : Ex H H') (h : H a = some o) : H' a = some o := e a o h
theorem fr_at {b : Addr} {H H' : Hp} {a : Addr} {o : HO} (e : Fr b H H') (n : a ≠ b) (h : H a = some o) : H' a = some o := e a o n h
theorem fr_none {b : Addr} {H H' : Hp} {l : Addr} (e : Fr b H H') (h : H' l = none) (n : l ≠ b) : H l = none := by
  cases q : H l with
  | none => rfl
  | some o =>
    rw [e l o n q] at h
    cases h
theorem upd_at {H : Hp} {a b : Addr} {o u : HO} (n : b ≠ a) (h : H b = some u) : upd H a o b = some u := by
  rw [upd_ne n]
  exact h
theorem ref_ne {a b : Addr} (h : V.ref a ≠ V.ref b) : a ≠ b := fun e => h (by rw [e])
/-! ### readings by name -/
def rLen (K : PySem.W.Frag) : List V → Hp → VK → Prop := fun xs H Q => ∃ p ys, xs = [.ref p] ∧ (SqL K H p ys ∨ SqT K H p ys) ∧ Q (.int ys.length) H
def rLenStr : List V → Hp → VK → Prop := fun xs H Q => ∃ z, xs = [.str z] ∧ z.length ≤ sizeLine ∧ Q (.int z.length) H
def rAbs : List V → Hp → VK → Prop := fun xs H Q => ∃ i, xs = [.int i] ∧ Q (.int (if i < 0 then -i else i)) H
def rMax2 : List V → Hp → VK → Prop := fun xs H Q => ∃ i j, xs = [.int i, .int j] ∧ Q (.int (if j > i then j else i)) H
def rMin2 : List V → Hp → VK → Prop := fun xs H Q => ∃ i j, xs = [.int i, .int j] ∧ Q (.int (if j < i then j else i)) H
def rInt1 : List V → Hp → VK → Prop := fun xs H Q => (∃ i, xs = [.int i] ∧ Q (.int i) H) ∨ ∃ k, xs = [.bl k] ∧ Q (.int (if k then 1 else 0)) H
def rStrInt : List V → Hp → VK → Prop := fun xs H Q => ∃ i : Int, xs = [.int i] ∧ i.natAbs.log2 < 1920 ∧ Q (.str (toString i)) H
def rListOf (K : PySem.W.Frag) : List V → Hp → VK → Prop := fun xs H Q => ∃ p ys, xs = [.ref p] ∧ (SqL K H p ys ∨ SqT K H p ys) ∧ ∀ l, H l = none → Q (.ref l) (upd H l (.lst ys))
def rTupleOf (K : PySem.W.Frag) : List V → Hp → VK → Prop := fun xs H Q => ∃ p ys, xs = [.ref p] ∧ ((SqL K H p ys ∧ ∀ l, H l = none → Q (.ref l) (upd H l (.tup ys))) ∨ (SqT K H p ys ∧ Q (.ref p) H))
def rDivmod : List V → Hp → VK → Prop := fun xs H Q => ∃ i j, xs = [.int i, .int j] ∧ CDiv i j ∧ ∀ p, H p = none → Q (.ref p) (upd H p (.tup [.int (i / j), .int (i % j)]))
def rAddStr : R2 := fun x y H Q => ∃ i j, x = .str i ∧ y = .str j ∧ i.length + j.length ≤ sizeLine ∧ Q (.str (i ++ j)) H
def rFind : V → List V → Hp → VK → Prop := fun x xs H Q => ∃ a b, x = .str a ∧ xs = [.str b] ∧ Q (.int (Txt.find a b)) H
def rRjust : V → List V → Hp → VK → Prop := fun x xs H Q => ∃ (a : Str) (i : Int), x = .str a ∧ xs = [.int i] ∧ PadOk i = true ∧ Q (.str (Txt.rjust a i)) H
section
variable {X : Cx}
theorem cz_len : CallR X (.builtin "len") (rLen X.K) := call_len_seq
theorem cz_lenStr : CallR X (.builtin "len") rLenStr := call_len_str
theorem cz_abs : CallR X (.builtin "abs") rAbs := call_abs
theorem cz_max2 (hc : X.calm = true) : CallR X (.builtin "max") rMax2 := call_max2 hc
theorem cz_min2 (hc : X.calm = true) : CallR X (.builtin "min") rMin2 := call_min2 hc
theorem cz_int1 : CallR X (.type "int") rInt1 := call_int1
theorem cz_strInt : CallR X (.type "str") rStrInt := call_str_int
theorem cz_listOf : CallR X (.type "list") (rListOf X.K) := call_list_of
theorem cz_tupleOf : CallR X (.type "tuple") (rTupleOf X.K) := call_tuple_of
theorem cz_divmod : CallR X (.builtin "divmod") rDivmod := call_divmod
theorem oz_addStr : OpR X (binaryOp .Add) rAddStr := op_add_str
theorem mz_find : MtR X "str.find" rFind := mt_find
def rRjust2 : V → List V → Hp → VK → Prop := fun x xs H Q => ∃ (a f : Str) (i : Int), x = .str a ∧ xs = [.int i, .str f] ∧ (PadOk i = true ∧ f.length = 1) ∧ Q (.str (Txt.rjustF a i (f.cps.getD 0 0))) H
theorem mz_rjust2 : MtR X "str.rjust" rRjust2 := by
  intro pins s σ H x xs v us Q I rx rs h
  obtain ⟨a, f, i, rfl, rfl, hc, h⟩ := h
  obtain ⟨t, rfl⟩ := rx
  cases rs with
  | cons r1 rs =>
    cases rs with
    | cons r2 rs =>
      cases rs
      obtain ⟨u, rfl⟩ := r1
      obtain ⟨z, rfl⟩ := r2
      exact PyProof.Rows.rjust_fill hc.1 hc.2 fun t' k => ⟨V.str (Txt.rjustF a i (f.cps.getD 0 0)), H, I.tok k, ⟨t', rfl⟩, h⟩
def rJoin (K : PySem.W.Frag) : V → List V → Hp → VK → Prop := fun x xs H Q => ∃ a p, ∃ ys : List Str, x = .str a ∧ xs = [.ref p] ∧ (SqL K H p (ys.map V.str) ∨ SqT K H p (ys.map V.str)) ∧
      (ys.map (·.length)).sum + ys.length * a.length ≤ 16777216 ∧ Q (.str (Txt.join a ys)) H
theorem mz_join : MtR X "str.join" (rJoin X.K) := mt_join
def rUpper : V → List V → Hp → VK → Prop := fun x xs H Q => ∃ a, x = .str a ∧ xs = [] ∧ a.length ≤ 5592405 ∧ Q (.str (Txt.upper a)) H
theorem mz_upper : MtR X "str.upper" rUpper := mt_upper
def rMulS : R2 := fun x y H Q => ∃ (a : Str) (n : Int), x = .str a ∧ y = .int n ∧ MulOk a n ∧ Q (.str (Txt.mul a n)) H
theorem oz_mulS : OpR X (binaryOp .Mult) rMulS := by
  intro pins s σ H x y v u Q I rx ry h
  obtain ⟨a, n, rfl, rfl, hc, h⟩ := h
  obtain ⟨t, rfl⟩ := rx
  obtain ⟨z, rfl⟩ := ry
  exact PySem.SB.mul hc fun t' k => ⟨V.str (Txt.mul a n), H, I.tok k, ⟨t', rfl⟩, h⟩
def tFS (ts : List TE) : TE := fun σ H Q => tJs ts Str.empty σ H fun out H1 => Q (.str out) H1
theorem pz_fstr {v1 v2 : Expr} {rest : List Expr} {ts : List TE} {pos : Pos} (h : PJ X (v1 :: v2 :: rest) ts) : PE X (.JoinedStr (v1 :: v2 :: rest) pos) (tFS ts) := pe_joined h
def rSindex : V → List V → Hp → VK → Prop := fun x xs H Q => ∃ a b i rest, x = .str a ∧ xs = [.str b] ∧ Builtin.Str.occurrences a b 0 a.length 1 = i :: rest ∧ Q (.int (i : Nat)) H
theorem mz_sindex : MtR X "str.index" rSindex := mt_sindex
theorem mz_rjust : MtR X "str.rjust" rRjust := mt_rjust
end
section
variable {K : PySem.W.Frag} {H : Hp} {Q : VK} {x : V}
theorem s_tyS {z : Str} {R : Prop} (k : R) : tyV K "str" (.str z) H ∧ R := ⟨by show "str" = "str"; rfl, k⟩
theorem s_tyL {a : Addr} {xs : List V} {R : Prop} (h : SqL K H a xs) (k : R) : tyV K "list" (.ref a) H ∧ R := ⟨.inl ⟨rfl, _, h⟩, k⟩
theorem s_rLen {p : Addr} {xs : List V} (h : SqL K H p xs ∨ SqT K H p xs) (k : Q (.int xs.length) H) : rLen K [.ref p] H Q := ⟨p, xs, rfl, h, k⟩
theorem s_rLenStr {z : Str} (h : z.length ≤ sizeLine) (k : Q (.int z.length) H) : rLenStr [.str z] H Q := ⟨z, rfl, h, k⟩
theorem s_rAbs {i : Int} (k : Q (.int (if i < 0 then -i else i)) H) : rAbs [.int i] H Q := ⟨i, rfl, k⟩
theorem s_rMax2 {i j : Int} (k : Q (.int (if j > i then j else i)) H) : rMax2 [.int i, .int j] H Q := ⟨i, j, rfl, k⟩
theorem s_rMin2 {i j : Int} (k : Q (.int (if j < i then j else i)) H) : rMin2 [.int i, .int j] H Q := ⟨i, j, rfl, k⟩
theorem s_rInt1 {i : Int} (k : Q (.int i) H) : rInt1 [.int i] H Q := .inl ⟨i, rfl, k⟩
theorem s_rIntB {c : Bool} (k : Q (.int (if c then 1 else 0)) H) : rInt1 [.bl c] H Q := .inr ⟨c, rfl, k⟩
theorem s_rStrInt {i : Int} (h : i.natAbs.log2 < 1920) (k : Q (.str (toString i)) H) : rStrInt [.int i] H Q := ⟨i, rfl, h, k⟩
theorem s_rListOf {p : Addr} {xs : List V} (h : SqL K H p xs ∨ SqT K H p xs) (k : NewO (.lst xs) H Q) : rListOf K [.ref p] H Q := ⟨p, xs, rfl, h, k⟩
theorem s_rTupleOf {p : Addr} {xs : List V} (h : SqL K H p xs) (k : NewO (.tup xs) H Q) : rTupleOf K [.ref p] H Q := ⟨p, xs, rfl, .inl ⟨h, k⟩⟩
theorem s_rDivmod {i j : Int} (h : CDiv i j) (k : NewO (.tup [.int (i / j), .int (i % j)]) H Q) : rDivmod [.int i, .int j] H Q := ⟨i, j, rfl, h, k⟩
theorem s_rAddStr {a b : Str} (h : a.length + b.length ≤ sizeLine) (k : Q (.str (a ++ b)) H) : rAddStr (.str a) (.str b) H Q := ⟨a, b, rfl, rfl, h, k⟩
theorem s_rFind {a b : Str} (k : Q (.int (Txt.find a b)) H) : rFind (.str a) [.str b] H Q := ⟨a, b, rfl, rfl, k⟩
theorem s_rJoin {a : Str} {p : Addr} {xs : List V} (ys : List Str) (h : SqL K H p xs ∨ SqT K H p xs) (e : xs = ys.map V.str) (z : (ys.map (·.length)).sum + ys.length * a.length ≤ 16777216) (k : Q (.str (Txt.join a ys)) H) : rJoin K (.str a) [.ref p] H Q := ⟨a, p, ys, rfl, rfl, by rw [← e]; exact h, z, k⟩
def RevV (K : PySem.W.Frag) (x : V) (H : Hp) (Q : VK) : Prop := ∃ a xs, x = .ref a ∧ SqL K H a xs ∧ ∀ p, H p = none → Q (.ref p) (upd H p (.lst xs.reverse))
theorem s_tRevL {te : TE} {σ : L2.St} (k : te σ H fun x H1 => RevV K x H1 Q) : tRevL K te σ H Q := k
theorem s_revV {a : Addr} {xs : List V} (h : SqL K H a xs) (k : NewO (.lst xs.reverse) H Q) : RevV K (.ref a) H Q := ⟨a, xs, rfl, h, k⟩
def AppV (x : V) (vs : List V) (H : Hp) (Q : VK) : Prop := rAppend x vs H Q
theorem s_app {l : Addr} {xs : List V} {y : V} (h : H l = some (.lst xs)) (z : xs.length < sizeLine) (k : ∀ H', Fr l H H' → H' l = some (.lst (xs ++ [y])) → Q .non H') : rAppend (.ref l) [y] H Q := ⟨l, xs, y, rfl, rfl, h, z, k _ Fr.upd upd_same⟩
theorem s_rRjust2 {a f : Str} {i : Int} (h : PadOk i = true ∧ f.length = 1) (k : Q (.str (Txt.rjustF a i (f.cps.getD 0 0))) H) : rRjust2 (.str a) [.int i, .str f] H Q := ⟨a, f, i, rfl, rfl, h, k⟩
theorem s_rRjust {a : Str} {i : Int} (h : PadOk i = true) (k : Q (.str (Txt.rjust a i)) H) : rRjust (.str a) [.int i] H Q := ⟨a, i, rfl, rfl, h, k⟩
theorem s_rAll {K : PySem.W.Frag} {p : Addr} (bs : List Bool) {xs : List V} (h : SqL K H p xs) (e : xs = bs.map V.bl) (k : Q (.bl (bs.all id)) H) : rAll K [.ref p] H Q := ⟨p, bs, rfl, by rw [← e]; exact h, k⟩
theorem s_rUpper {a : Str} (h : a.length ≤ 5592405) (k : Q (.str (Txt.upper a)) H) : rUpper (.str a) [] H Q := ⟨a, rfl, rfl, h, k⟩
theorem s_rMulS {a : Str} {n : Int} (h : MulOk a n) (k : Q (.str (Txt.mul a n)) H) : rMulS (.str a) (.int n) H Q := ⟨a, n, rfl, rfl, h, k⟩
def FmtV (x : V) (H : Hp) (Q : VK) : Prop := (∃ y : Str, x = .str y ∧ y.length ≤ sizeLine ∧ Q (.str y) H) ∨ ∃ i : Int, x = .int i ∧ i.natAbs.log2 < 1920 ∧ Q (.str (toString i)) H
def JsV (x : V) (acc : Str) (ts : List TE) (σ : L2.St) (H : Hp) (R : Str → Hp → Prop) : Prop := ∃ y : Str, x = .str y ∧ (acc ++ y).length ≤ sizeLine ∧ tJs ts (acc ++ y) σ H R
theorem s_tFmt {te : TE} {σ : L2.St} (k : te σ H fun x H1 => FmtV x H1 Q) : tFmt te σ H Q := k
theorem s_fmtS {y : Str} (h : y.length ≤ sizeLine) (k : Q (.str y) H) : FmtV (.str y) H Q := .inl ⟨y, rfl, h, k⟩
theorem s_fmtI {i : Int} (h : i.natAbs.log2 < 1920) (k : Q (.str (toString i)) H) : FmtV (.int i) H Q := .inr ⟨i, rfl, h, k⟩
theorem s_tFS {ts : List TE} {σ : L2.St} (k : tJs ts Str.empty σ H fun out H1 => Q (.str out) H1) : tFS ts σ H Q := k
theorem s_jsNil {acc : Str} {σ : L2.St} {R : Str → Hp → Prop} (k : R acc H) : tJs [] acc σ H R := k
theorem s_jsCons {t : TE} {ts : List TE} {acc : Str} {σ : L2.St} {R : Str → Hp → Prop} (k : t σ H fun x H1 => JsV x acc ts σ H1 R) : tJs (t :: ts) acc σ H R := k
theorem s_jsV {y acc : Str} {ts : List TE} {σ : L2.St} {R : Str → Hp → Prop} (h : (acc ++ y).length ≤ sizeLine) (k : tJs ts (acc ++ y) σ H R) : JsV (.str y) acc ts σ H R := ⟨y, rfl, h, k⟩
theorem s_rSindex {a b : Str} {i : Nat} {rest : List Nat} (h : Builtin.Str.occurrences a b 0 a.length 1 = i :: rest) (k : Q (.int (i : Nat)) H) : rSindex (.str a) [.str b] H Q := ⟨a, b, i, rest, rfl, rfl, h, k⟩
theorem s_rNotInS {c : Nat} {z : Str} (k : Q (.bl (!decide (c ∈ z.cps.toList))) H) : rNotInS (.str ⟨#[c]⟩) (.str z) H Q := ⟨c, z, rfl, rfl, k⟩
theorem s_rInS {c : Nat} {z : Str} (k : Q (.bl (decide (c ∈ z.cps.toList))) H) : rInS (.str ⟨#[c]⟩) (.str z) H Q := ⟨c, z, rfl, rfl, k⟩
theorem s_catA {K : PySem.W.Frag} {a b : Addr} {xs ys : List V} (h1 : SqT K H a xs) (h2 : SqT K H b ys) (hx : xs ≠ []) (hy : ys ≠ []) (hz : xs.length + ys.length ≤ sizeLine) (k : NewO (.tup (xs ++ ys)) H Q) : rCatA K (.ref a) (.ref b) H Q :=
  ⟨a, b, xs, ys, rfl, rfl, h1, h2, hz, fun e => absurd e hx, fun _ e => absurd e hy, fun _ _ => k⟩
theorem s_slT {K : PySem.W.Frag} {a : Addr} {xs : List V} {lo hi : Option Int} (n : Nat) (ys : List V) (h : SqT K H a xs) (hn : xs.length = n) (hw : ¬ (HT.sIx n 0 lo = 0 ∧ HT.sIx n n hi = n)) (e : cutV xs lo hi = ys) (k : NewO (.tup ys) H Q) : rSlT K (.ref a) lo hi H Q := ⟨a, xs, rfl, h, by rw [hn]; exact hw, by rw [e]; exact k⟩
theorem s_rInSeq {K : PySem.W.Frag} {p : Addr} {xs : List V} (h : SqL K H p xs ∨ SqT K H p xs) (f1 : flatV x = true) (f2 : xs.all flatV = true) (k : Q (.bl (inV x xs)) H) : rIn K false x (.ref p) H Q := ⟨p, xs, rfl, h, f1, f2, k⟩
theorem s_rNotInSeq {K : PySem.W.Frag} {p : Addr} {xs : List V} (h : SqL K H p xs ∨ SqT K H p xs) (f1 : flatV x = true) (f2 : xs.all flatV = true) (k : Q (.bl (!inV x xs)) H) : rIn K true x (.ref p) H Q := ⟨p, xs, rfl, h, f1, f2, k⟩
theorem s_rIsN (k : Q (.bl (decide (x = .non))) H) : rIsN x .non H Q := ⟨rfl, k⟩
theorem s_rNotN (k : Q (.bl (!decide (x = .non))) H) : rNotN x .non H Q := ⟨rfl, k⟩
end

/-! ### texts as their codes -/
def T (l : List Nat) : Str := ⟨l.toArray⟩
theorem T_len (l : List Nat) : (T l).length = l.length := by
  show (l.toArray).size = _
  simp
theorem T_app (a b : List Nat) : T a ++ T b = T (a ++ b) := by
  show (⟨a.toArray ++ b.toArray⟩ : Str) = ⟨(a ++ b).toArray⟩
  simp
theorem T_one (c : Nat) : (⟨#[c]⟩ : Str) = T [c] := rfl
theorem T_cps (l : List Nat) : (T l).cps.toList = l := by
  show l.toArray.toList = l
  simp
theorem T_inj {a b : List Nat} (h : T a = T b) : a = b := by
  have e := congrArg (fun s : Str => s.cps.toList) h
  rw [T_cps, T_cps] at e
  exact e
theorem at0 {α : Type} (c : α) (r : List α) : atI (c :: r) (0 : Int) = some c := atI_nat (xs := c :: r) (j := 0) rfl
theorem at_ex {α : Type} (l : List α) {z : Int} (h0 : 0 ≤ z) (h1 : z < l.length) : ∃ c, atI l z = some c := by
  obtain ⟨n, rfl⟩ : ∃ n : Nat, z = n := ⟨z.toNat, by omega⟩
  exact ⟨l[n]'(by omega), atI_nat (List.getElem?_eq_getElem (by omega))⟩
/-- an item at an open place: what is true of all items -/
theorem s_ixP {K : PySem.W.Frag} {p : Addr} {xs : List V} {z : Int} {H : Hp} {Q : VK} (P : V → Prop) (h : SqL K H p xs) (hz : 0 ≤ z ∧ z < xs.length) (hP : ∀ v ∈ xs, P v) (k : ∀ v, P v → Q v H) : rIxL K (.ref p) (.int z) H Q := by
  obtain ⟨v, hv⟩ := at_ex xs hz.1 hz.2
  obtain ⟨j, _, hj, _⟩ := atI_get hv
  exact ⟨p, xs, z, v, rfl, rfl, h, hv, k v (hP v (List.mem_of_getElem? hj))⟩
/-- an item at an open place: what is true of all items -/
theorem s_ixPT {K : PySem.W.Frag} {p : Addr} {xs : List V} {z : Int} {H : Hp} {Q : VK} (P : V → Prop) (h : SqT K H p xs) (hz : 0 ≤ z ∧ z < xs.length) (hP : ∀ v ∈ xs, P v) (k : ∀ v, P v → Q v H) : rIxT K (.ref p) (.int z) H Q := by
  obtain ⟨v, hv⟩ := at_ex xs hz.1 hz.2
  obtain ⟨j, _, hj, _⟩ := atI_get hv
  exact ⟨p, xs, z, v, rfl, rfl, h, hv, k v (hP v (List.mem_of_getElem? hj))⟩
theorem s_ixS {z : Str} {a : Int} {c : Nat} {H : Hp} {Q : VK} (hz : z.length ≤ sizeLine) (e : atI z.cps.toList a = some c) (k : Q (.str ⟨#[c]⟩) H) : rIxS (.str z) (.int a) H Q := ⟨z, a, c, rfl, rfl, hz, e, k⟩
theorem T_rjust (l : List Nat) (n c : Nat) : Txt.rjustF (T l) (n : Int) c = T (List.replicate (n - l.length) c ++ l) := by
  unfold Txt.rjustF
  rw [T_len]
  split
  · rw [show n - l.length = 0 from by omega]
    rfl
  · show (⟨Array.replicate _ c ++ l.toArray ++ Array.replicate 0 c⟩ : Str) = _
    rw [Int.toNat_natCast]
    unfold T
    congr 1
    rw [← List.toArray_replicate]
    simp
/-! ### new objects -/
theorem sz {n : Nat} (h : n ≤ 100000) : n ≤ sizeLine := Nat.le_trans h (by decide)
theorem szl {n : Nat} (h : n ≤ 100000) : n < sizeLine := Nat.lt_of_le_of_lt h (by decide)

theorem s_setN {H : Hp} {v : V} {p : Addr} {xs : List V} {a : Int} {m : Nat} {R : Hp → Prop} (h : H p = some (.lst xs)) (e : ixN xs.length a = some m) (ys : List V) (hy : xs.set m v = ys) (k : ∀ H', Fr p H H' → H' p = some (.lst ys) → R H') : rSetL (.ref p) (.int a) v H R :=
  ⟨p, xs, a, m, rfl, rfl, h, e, by rw [hy]; exact k _ Fr.upd upd_same⟩
/-! ### the drawing bag -/
structure Bag (H : Hp) (b c : Addr) : Prop where
  ex : ∃ (cells : List Int) (i : Nat) (big salt : Int), H b = some (.lst [.ref c, .int i, .int big, .int salt]) ∧ H c = some (.lst (cells.map V.int)) ∧ i ≤ cells.length ∧ 0 ≤ big ∧ 0 ≤ salt ∧ salt < 2147483647
theorem bag_ne {H : Hp} {b c : Addr} {xs : List V} {cells : List Int} (h1 : H b = some (.lst (.ref c :: xs))) (h2 : H c = some (.lst (cells.map V.int))) : c ≠ b := by
  intro e
  subst e
  rw [h1] at h2
  injection h2 with h2
  injection h2 with h2
  cases cells with
  | nil => cases h2
  | cons y ys => injection h2 with h2; cases h2
theorem Bag.getb {H : Hp} {b c : Addr} (B : Bag H b c) : ∃ xs, H b = some (.lst xs) := by
  obtain ⟨_, _, _, _, h, _⟩ := B.ex
  exact ⟨_, h⟩
theorem Bag.getc {H : Hp} {b c : Addr} (B : Bag H b c) : ∃ xs, H c = some (.lst xs) := by
  obtain ⟨_, _, _, _, _, h, _⟩ := B.ex
  exact ⟨_, h⟩
theorem Bag.neb {H : Hp} {b c p : Addr} (B : Bag H b c) (h : H p = none) : p ≠ b := by
  obtain ⟨_, q⟩ := B.getb
  exact (ne_of_none q h).symm
theorem Bag.nec {H : Hp} {b c p : Addr} (B : Bag H b c) (h : H p = none) : p ≠ c := by
  obtain ⟨_, q⟩ := B.getc
  exact (ne_of_none q h).symm
theorem neb_of {H : Hp} {b c p : Addr} (h : H p = none) (B : Bag H b c) : p ≠ b := B.neb h
theorem nec_of {H : Hp} {b c p : Addr} (h : H p = none) (B : Bag H b c) : p ≠ c := B.nec h
theorem Bag.cb {H : Hp} {b c : Addr} (B : Bag H b c) : c ≠ b := by
  obtain ⟨_, _, _, _, h1, h2, _⟩ := B.ex
  exact bag_ne h1 h2
theorem Bag.ext {H H' : Hp} {b c : Addr} (B : Bag H b c) (e : Ex H H') : Bag H' b c := by
  obtain ⟨cells, i, big, salt, h1, h2, r⟩ := B.ex
  exact ⟨cells, i, big, salt, e _ _ h1, e _ _ h2, r⟩
theorem Bag.frs {H H' : Hp} {b c D : Addr} (B : Bag H b c) (n1 : D ≠ b) (n2 : D ≠ c) (e : Fr D H H') : Bag H' b c := by
  obtain ⟨cells, i, big, salt, h1, h2, r⟩ := B.ex
  exact ⟨cells, i, big, salt, e _ _ n1.symm h1, e _ _ n2.symm h2, r⟩
theorem Bag.mk' {H : Hp} {b c : Addr} {cells : List Int} {i : Nat} {big salt : Int} (h1 : H b = some (HO.lst [.ref c, .int i, .int big, .int salt])) (h2 : H c = some (HO.lst (cells.map V.int))) (h3 : i ≤ cells.length) (h4 : 0 ≤ big) (h5 : 0 ≤ salt ∧ salt < 2147483647) : Bag H b c :=
  ⟨cells, i, big, salt, h1, h2, h3, h4, h5.1, h5.2⟩
def spPull : Sp := fun vs H Q _ => ∃ (b c : Addr) (n : Int), vs = [.ref b, .int n] ∧ Bag H b c ∧ 0 < n ∧ n < 2 ^ 200 ∧ ∀ z H', 0 ≤ z → z < n → Bag H' b c → Fr b H H' → Q (.int z) H'
def spBag (K : PySem.W.Frag) : Sp := fun vs H Q _ => ∃ (a : Addr) (ns : List Int), vs = [.ref a] ∧ SqL K H a (ns.map V.int) ∧ ns.length ≤ 63 ∧ ∀ b c H', H b = none → H c = none → Ex H H' → Bag H' b c → Q (.ref b) H'
theorem use_pull {H : Hp} {b c : Addr} {n : Int} {Q : VK} {E : XK} (B : Bag H b c) (h : 0 < n ∧ n < 2 ^ 200) (k : ∀ z H', 0 ≤ z → z < n → Bag H' b c → Fr b H H' → Q (.int z) H') : spPull ([.ref b, .int n] ++ []) H Q E :=
  ⟨b, c, n, rfl, B, h.1, h.2, k⟩

/-! ### what cannot change: the heap without the addresses that may -/
def wos (M : List Addr) (H : Hp) : Hp := fun a => if a ∈ M then none else H a
theorem wos_some {M : List Addr} {a : Addr} {H : Hp} {o : HO} (h : wos M H a = some o) : a ∉ M ∧ H a = some o := by
  unfold wos at h
  split at h
  · cases h
  · exact ⟨by assumption, h⟩
theorem wos_mk {M : List Addr} {a : Addr} {H : Hp} {o : HO} (n : a ∉ M) (h : H a = some o) : wos M H a = some o := by
  unfold wos
  rw [if_neg n]
  exact h
theorem wos_ex {M : List Addr} {H : Hp} : Ex (wos M H) H := fun _ _ h => (wos_some h).2
theorem wos_nil {H : Hp} : Ex H (wos [] H) := fun _ _ h => wos_mk (by simp) h
theorem Ex.wos {M : List Addr} {H H' : Hp} (e : Ex H H') : Ex (Z.wos M H) (Z.wos M H') := fun a o h => wos_mk (wos_some h).1 (e a o (wos_some h).2)
theorem Fr.wos {M : List Addr} {b : Addr} {H H' : Hp} (e : Fr b H H') (hb : b ∈ M) : Ex (Z.wos M H) (Z.wos M H') := fun a o h =>
  wos_mk (wos_some h).1 (e a o (fun q => (wos_some h).1 (by rw [q]; exact hb)) (wos_some h).2)
/-- an address more that may change: it is new -/
theorem wos_more {M : List Addr} {D : Addr} {H H' : Hp} (e : Ex H H') (n : H D = none) : Ex (wos M H) (wos (D :: M) H') := fun a o h => by
  have h1 := wos_some h
  refine wos_mk ?_ (e _ _ h1.2)
  intro q
  rcases List.mem_cons.mp q with q | q
  · rw [q, n] at h1
    cases h1.2
  · exact h1.1 q
/-- one that has come to rest -/
theorem wos_less {M : List Addr} {D : Addr} {H : Hp} : Ex (wos (D :: M) H) (wos M H) := fun _ _ h => wos_mk (fun q => (wos_some h).1 (List.mem_cons_of_mem _ q)) (wos_some h).2
theorem wos_new {M : List Addr} {p : Addr} {H H' : Hp} {o : HO} (n : H p = none) (hM : ∀ a ∈ M, H a ≠ none) (h : H' p = some o) : Z.wos M H' p = some o := wos_mk (fun q => hM _ q n) h

theorem cut63 {xs : List V} (h : xs.length ≤ 63) : cutV xs none (some 63) = xs := by
  unfold cutV
  have e : HT.sIx xs.length xs.length (some 63) = xs.length := by
    rw [show (63 : Int) = ((63 : Nat) : Int) from rfl, HT.sIx_nat]
    omega
  rw [HT.sIx_none, e]
  simp
theorem map_int_get {ns : List Int} {i : Nat} {x : V} (h : (ns.map V.int)[i]? = some x) : ∃ y, x = V.int y := by
  rw [List.getElem?_map] at h
  cases e : ns[i]? with
  | none => rw [e] at h; cases h
  | some y => rw [e] at h; exact ⟨y, (Option.some.inj h).symm⟩
/-! ### comprehensions -/
def LcW (J : It) (g : TG) (tt : TT) (te : TE) (vs : List Nat) (σ : L2.St) (H1 : Hp) (Q : VK) : Prop := ∀ D, H1 D = none → ∃ W : Nat → Nat → Hp → Prop, (∃ m, W 0 m (upd H1 D (.lst []))) ∧ ∀ i m H, W i m H →
  (J.stop i H ∧ Q (.ref D) H) ∨ (J.go i H ∧ ∃ Nx : Hp → Prop, (∀ H', Nx H' → ∃ m', m' < m ∧ W (i + 1) m' H') ∧ ∀ x H', J.yld i H x H' → g x (wipe σ vs) H' fun σ2 H2 => wipe σ2 vs = wipe σ vs ∧ tt σ2 H2 fun b H3 =>
    if b = true then te σ2 H3 fun y H4 => ∃ acc, H4 D = some (.lst acc) ∧ acc.length < sizeLine ∧ Nx (upd H4 D (.lst (acc ++ [y]))) else Nx H3)
theorem s_lc {wi : TI} {g : TG} {tt : TT} {te : TE} {vs : List Nat} {σ : L2.St} {H : Hp} {Q : VK} (k : wi σ H fun J H1 => LcW J g tt te vs σ H1 Q) : tLc wi g tt te vs σ H Q := k
theorem s_yes {σ : L2.St} {H : Hp} {R : Bool → Hp → Prop} (k : R true H) : tYes σ H R := k
/-- between two turns: D holds what has been made -/
def Cv (Iv : Addr → Hp → Prop) (R : Addr → Nat → List V → Hp → Prop) (D : Addr) (i : Nat) (H : Hp) : Prop := ∃ l, Iv D H ∧ H D = some (.lst l) ∧ l.length ≤ i ∧ R D i l H
theorem c_put {Iv : Addr → Hp → Prop} {R : Addr → Nat → List V → Hp → Prop} {D : Addr} {i : Nat} {H4 : Hp} {l : List V} {y : V} (h : H4 D = some (.lst l)) (hz : l.length ≤ i ∧ i < 50000) (k : ∀ H5, Fr D H4 H5 → H5 D = some (.lst (l ++ [y])) → Iv D H5 ∧ R D (i + 1) (l ++ [y]) H5) :
    ∃ acc, H4 D = some (.lst acc) ∧ acc.length < sizeLine ∧ Cv Iv R D (i + 1) (upd H4 D (.lst (acc ++ [y]))) := by
  obtain ⟨a, r⟩ := k _ Fr.upd upd_same
  exact ⟨l, h, szl (by omega), l ++ [y], a, upd_same, by rw [List.length_append, List.length_singleton]; omega, r⟩
theorem c_skip {Iv : Addr → Hp → Prop} {R : Addr → Nat → List V → Hp → Prop} {D : Addr} {i : Nat} {H4 : Hp} {l : List V} (h : H4 D = some (.lst l)) (hz : l.length ≤ i) (a : Iv D H4) (r : R D (i + 1) l H4) : Cv Iv R D (i + 1) H4 := ⟨l, a, h, by omega, r⟩
/-- over any walk: the new list D is held apart; R speaks of what has been made -/
theorem c_it {J : It} {n : Nat} {G : Hp → Prop} {Y : Nat → Hp → V → Hp → Prop} {g : TG} {tt : TT} {te : TE} {vs : List Nat} {σ : L2.St} {H : Hp} {Q : VK} (w : Walk J n G Y) (Iv : Addr → Hp → Prop) (R : Addr → Nat → List V → Hp → Prop)
    (h0 : ∀ D H', H D = none → Ex H H' → H' D = some (.lst []) → Iv D H' ∧ R D 0 [] H') (hG : ∀ D H', Iv D H' → G H')
    (hs : ∀ D i l H1 x H1', i < n → Iv D H1 → H1 D = some (.lst l) → l.length ≤ i → R D i l H1 → Y i H1 x H1' → g x (wipe σ vs) H1' fun σ2 H2 => wipe σ2 vs = wipe σ vs ∧ tt σ2 H2 fun b H3 =>
      if b = true then te σ2 H3 fun y H4 => ∃ acc, H4 D = some (.lst acc) ∧ acc.length < sizeLine ∧ Cv Iv R D (i + 1) (upd H4 D (.lst (acc ++ [y]))) else Cv Iv R D (i + 1) H3)
    (hd : ∀ D l H', Iv D H' → H' D = some (.lst l) → l.length ≤ n → R D n l H' → Q (.ref D) H') : LcW J g tt te vs σ H Q := by
  intro D hD
  refine lc_it w (Cv Iv R D) ?_ (fun i H' _ p => ?_) (fun i x H1 H1' hi p y => ?_) (fun H' p => ?_)
  · obtain ⟨a, b⟩ := h0 D _ hD (Ex.new hD) upd_same
    exact ⟨[], a, upd_same, Nat.le_refl _, b⟩
  · obtain ⟨l, a, _⟩ := p
    exact hG _ _ a
  · obtain ⟨l, a, hl, hz, r⟩ := p
    exact hs D i l H1 x H1' hi a hl hz r y
  · obtain ⟨l, a, hl, hz, r⟩ := p
    exact hd D l H' a hl hz r
theorem c_range {n : Int} {g : TG} {tt : TT} {te : TE} {vs : List Nat} {σ : L2.St} {H : Hp} {Q : VK} (b : -(2 ^ 62) ≤ n ∧ n < 2 ^ 62) (Iv : Addr → Hp → Prop) (R : Addr → Nat → List V → Hp → Prop)
    (h0 : ∀ D H', H D = none → Ex H H' → H' D = some (.lst []) → Iv D H' ∧ R D 0 [] H')
    (hs : ∀ D (i : Nat) l H1, (i : Int) < n → Iv D H1 → H1 D = some (.lst l) → l.length ≤ i → R D i l H1 → g (.int (i : Int)) (wipe σ vs) H1 fun σ2 H2 => wipe σ2 vs = wipe σ vs ∧ tt σ2 H2 fun b H3 =>
      if b = true then te σ2 H3 fun y H4 => ∃ acc, H4 D = some (.lst acc) ∧ acc.length < sizeLine ∧ Cv Iv R D (i + 1) (upd H4 D (.lst (acc ++ [y]))) else Cv Iv R D (i + 1) H3)
    (hd : ∀ D l H', Iv D H' → H' D = some (.lst l) → l.length ≤ n.toNat → R D n.toNat l H' → Q (.ref D) H') :
    ∃ j : Int, [V.int n] = [.int j] ∧ -(2 ^ 62) ≤ j ∧ j < 2 ^ 62 ∧ LcW (Itr 0 j.toNat) g tt te vs σ H Q :=
  ⟨n, rfl, b.1, b.2, c_it walk_range Iv R h0 (fun _ _ _ => trivial) (fun D i l H1 x H1' hi a hl hz r y => by
    obtain ⟨e, y⟩ := y
    subst e y
    have e0 : (0 : Int) + (i : Int) = (i : Int) := Int.zero_add _
    dsimp only
    rw [e0]
    exact hs D i l _ (by omega) a hl hz r) hd⟩
theorem c_list {K : PySem.W.Frag} {a : Addr} {g : TG} {tt : TT} {te : TE} {vs : List Nat} {σ : L2.St} {H : Hp} {Q : VK} (xs : List V) (h : SqL K H a xs) (Iv : Addr → Hp → Prop) (R : Addr → Nat → List V → Hp → Prop)
    (h0 : ∀ D H', H D = none → Ex H H' → H' D = some (.lst []) → Iv D H' ∧ R D 0 [] H') (hG : ∀ D H', Iv D H' → SqL K H' a xs)
    (hs : ∀ D i l H1 x, xs[i]? = some x → Iv D H1 → H1 D = some (.lst l) → l.length ≤ i → R D i l H1 → g x (wipe σ vs) H1 fun σ2 H2 => wipe σ2 vs = wipe σ vs ∧ tt σ2 H2 fun b H3 =>
      if b = true then te σ2 H3 fun y H4 => ∃ acc, H4 D = some (.lst acc) ∧ acc.length < sizeLine ∧ Cv Iv R D (i + 1) (upd H4 D (.lst (acc ++ [y]))) else Cv Iv R D (i + 1) H3)
    (hd : ∀ D l H', Iv D H' → H' D = some (.lst l) → l.length ≤ xs.length → R D xs.length l H' → Q (.ref D) H') :
    ∃ a', V.ref a = .ref a' ∧ (∃ xs, SqL K H a' xs) ∧ LcW (Itl K a') g tt te vs σ H Q :=
  ⟨a, rfl, ⟨xs, h⟩, c_it walk_list Iv R h0 hG (fun D i l H1 x H1' hi a hl hz r y => by
    obtain ⟨e, y⟩ := y
    subst e
    exact hs D i l _ x y a hl hz r) hd⟩
theorem c_tup {K : PySem.W.Frag} {a : Addr} {g : TG} {tt : TT} {te : TE} {vs : List Nat} {σ : L2.St} {H : Hp} {Q : VK} (xs : List V) (h : SqT K H a xs) (Iv : Addr → Hp → Prop) (R : Addr → Nat → List V → Hp → Prop)
    (h0 : ∀ D H', H D = none → Ex H H' → H' D = some (.lst []) → Iv D H' ∧ R D 0 [] H') (hG : ∀ D H', Iv D H' → SqT K H' a xs)
    (hs : ∀ D i l H1 x, xs[i]? = some x → Iv D H1 → H1 D = some (.lst l) → l.length ≤ i → R D i l H1 → g x (wipe σ vs) H1 fun σ2 H2 => wipe σ2 vs = wipe σ vs ∧ tt σ2 H2 fun b H3 =>
      if b = true then te σ2 H3 fun y H4 => ∃ acc, H4 D = some (.lst acc) ∧ acc.length < sizeLine ∧ Cv Iv R D (i + 1) (upd H4 D (.lst (acc ++ [y]))) else Cv Iv R D (i + 1) H3)
    (hd : ∀ D l H', Iv D H' → H' D = some (.lst l) → l.length ≤ xs.length → R D xs.length l H' → Q (.ref D) H') :
    ∃ a', V.ref a = .ref a' ∧ (∃ xs, SqT K H a' xs) ∧ LcW (Itt K a') g tt te vs σ H Q :=
  ⟨a, rfl, ⟨xs, h⟩, c_it walk_tup Iv R h0 hG (fun D i l H1 x H1' hi a hl hz r y => by
    obtain ⟨e, y⟩ := y
    subst e
    exact hs D i l _ x y a hl hz r) hd⟩

/-- the law: a list of at most 63 ints is handed in, True comes out -/
def spLaw (K : PySem.W.Frag) : Sp := fun vs H Q _ => ∃ (a : Addr) (ns : List Int), vs = [.ref a] ∧ SqL K H a (ns.map V.int) ∧ ns.length ≤ 63 ∧ ∀ H', Q (.bl true) H'
theorem exm_self {K : PySem.W.Frag} {S : Addr} (h1 : PySem.W.subIn K (.ref S) (.type "BaseException") = some true) (h2 : PySem.W.isClsIn K S = true) (h3 : PySem.W.typeIn K (.ref S) = some (.type "type")) (h4 : PySem.W.subIn K (.ref S) (.ref S) = some true) :
    PySem.W.exmOne K (.ref S) (.ref S) = some true := by
  have e1 : (PySem.W.subIn K (.ref S) (.type "BaseException") == some true) = true := by rw [h1] <;> rfl
  have e2 : ((PySem.W.clsIn K S).isSome && PySem.W.typeIn K (.ref S) == some (.type "type")) = true := by
    rw [h3]
    have e3 : (PySem.W.clsIn K S).isSome = true := h2
    rw [e3] <;> rfl
  show (if (PySem.W.subIn K (.ref S) (.type "BaseException") == some true) = true then (if ((PySem.W.clsIn K S).isSome && PySem.W.typeIn K (.ref S) == some (.type "type")) = true then PySem.W.subIn K (.ref S) (.ref S) else none) else none) = some true
  rw [if_pos e1, if_pos e2, h4]
theorem Str_len_app (a b : Str) : (a ++ b).length = a.length + b.length := by
  show (a.cps ++ b.cps).size = _
  rw [Array.size_append]
  rfl
theorem s_callS {sp : Sp} {E : L2.St → XK} {tr : TA} {σ : L2.St} {H : Hp} {Q : VK} (k : tr σ H fun vs H1 => sp vs H1 Q (E σ)) : tCallS sp E tr σ H Q := k
/-- a whole number within bounds -/
def R (lo hi n : Int) : Prop := lo ≤ n ∧ n ≤ hi
def IntIn (lo hi : Int) (v : V) : Prop := ∃ n, v = .int n ∧ R lo hi n
theorem intIn_cons {lo hi n : Int} {xs : List V} (h : R lo hi n) (k : ∀ v ∈ xs, IntIn lo hi v) : ∀ v ∈ V.int n :: xs, IntIn lo hi v := fun v hv => by
  rcases List.mem_cons.mp hv with e | hv
  · exact ⟨n, e, h⟩
  · exact k v hv
theorem intIn_nil {lo hi : Int} : ∀ v ∈ ([] : List V), IntIn lo hi v := fun v hv => by cases hv
def spInt (lo hi : Int) : Sp := fun vs H Q _ => ∃ b c : Addr, vs = [.ref b] ∧ Bag H b c ∧ ∀ z H', lo ≤ z → z ≤ hi → Bag H' b c → Fr b H H' → Q (.int z) H'
theorem use_int {lo hi : Int} {H : Hp} {b c : Addr} {Q : VK} {E : XK} (B : Bag H b c) (k : ∀ z H', lo ≤ z → z ≤ hi → Bag H' b c → Fr b H H' → Q (.int z) H') : spInt lo hi ([.ref b] ++ []) H Q E := ⟨b, c, rfl, B, k⟩
/-! ### kinds -/
theorem kb_int_tuple : kitB "int" "tuple" = some false := by decide +kernel
theorem kb_int_list : kitB "int" "list" = some false := by decide +kernel
theorem kb_int_bool : kitB "int" "bool" = some false := by decide +kernel
theorem kb_int_int : kitB "int" "int" = some true := by decide +kernel
theorem kb_str_tuple : kitB "str" "tuple" = some false := by decide +kernel
theorem kb_str_list : kitB "str" "list" = some false := by decide +kernel
theorem kb_str_bool : kitB "str" "bool" = some false := by decide +kernel
theorem kb_str_int : kitB "str" "int" = some false := by decide +kernel
theorem kb_bool_tuple : kitB "bool" "tuple" = some false := by decide +kernel
theorem kb_bool_list : kitB "bool" "list" = some false := by decide +kernel
theorem kb_bool_bool : kitB "bool" "bool" = some true := by decide +kernel
theorem kb_bool_int : kitB "bool" "int" = some true := by decide +kernel
theorem kb_NoneType_tuple : kitB "NoneType" "tuple" = some false := by decide +kernel
theorem kb_NoneType_list : kitB "NoneType" "list" = some false := by decide +kernel
theorem kb_NoneType_bool : kitB "NoneType" "bool" = some false := by decide +kernel
theorem kb_NoneType_int : kitB "NoneType" "int" = some false := by decide +kernel
theorem kb_tuple_tuple : kitB "tuple" "tuple" = some true := by decide +kernel
theorem kb_tuple_list : kitB "tuple" "list" = some false := by decide +kernel
theorem kb_tuple_bool : kitB "tuple" "bool" = some false := by decide +kernel
theorem kb_tuple_int : kitB "tuple" "int" = some false := by decide +kernel
theorem kb_list_tuple : kitB "list" "tuple" = some false := by decide +kernel
theorem kb_list_list : kitB "list" "list" = some true := by decide +kernel
theorem kb_list_bool : kitB "list" "bool" = some false := by decide +kernel
theorem kb_list_int : kitB "list" "int" = some false := by decide +kernel

section
variable {K : PySem.W.Frag} {H H' : Hp} {Q : VK} {x v : V}
theorem ty_sqL {a : Addr} {xs : List V} (h : SqL K H a xs) : TyX K H (.ref a) (.type "list") := by
  rcases h with (h | ⟨o, h⟩) | ⟨o, its, n, h, c, _⟩
  · exact .base (.lst h)
  · exact .base (.frz h)
  · exact .kList h c
theorem ty_sqT {a : Addr} {xs : List V} (h : SqT K H a xs) : TyX K H (.ref a) (.type "tuple") := by
  rcases h with (h | ⟨o, h⟩) | ⟨o, its, n, h, c, _⟩
  · exact .base (.tup h)
  · exact .fTuple h
  · exact .kTuple h c
theorem s_isi {n m : String} {b : Bool} (ty : TyX K H x (.type n)) (e : kitB n m = some b) (k : Q (.bl b) H) : rIsi K [x, .ty m] H Q := ⟨x, .ty m, .type n, .type m, b, rfl, .ty m, ty, kit_ty e, k⟩
theorem s_isiTL {n : String} {b c : Bool} {tp : Addr} (h : H tp = some (.tup [.ty "tuple", .ty "list"])) (ty : TyX K H x (.type n)) (e : kitB n "tuple" = some b) (e' : kitB n "list" = some c) (k : Q (.bl (b || c)) H) : rIsiT K [x, .ref tp] H Q := by
  refine ⟨x, tp, _, .type n, [.type "tuple", .type "list"], _, rfl, h, .cons (.ty _) (.cons (.ty _) .nil), ty, ?_, k⟩
  cases b with
  | true => exact kitAny_cons (kit_ty e) (fun z => by cases z) (fun _ => rfl)
  | false =>
    refine kitAny_cons (kit_ty e) (fun _ => ?_) (fun z => by cases z)
    cases c with
    | true => exact kitAny_cons (kit_ty e') (fun z => by cases z) (fun _ => rfl)
    | false => exact kitAny_cons (kit_ty e') (fun _ => kitAny_nil) (fun z => by cases z)
end

/-! ### data -/
mutual
theorem dp_ex {K : PySem.W.Frag} {H H' : Hp} (e : Ex H H') : ∀ {v : V} {d : PyData}, Dp K H v d → Dp K H' v d
  | _, _, .non => .non
  | _, _, .bl b => .bl b
  | _, _, .int i => .int i
  | _, _, .str x => .str x
  | _, _, .lst h r => .lst (Ex.sqL e h) (dpAll_ex e r)
  | _, _, .tup h r => .tup (Ex.sqT e h) (dpAll_ex e r)
theorem dpAll_ex {K : PySem.W.Frag} {H H' : Hp} (e : Ex H H') : ∀ {vs : List V} {ds : List PyData}, DpAll K H vs ds → DpAll K H' vs ds
  | _, _, .nil => .nil
  | _, _, .cons h r => .cons (dp_ex e h) (dpAll_ex e r)
end
theorem dpAll_len {K : PySem.W.Frag} {H : Hp} : ∀ {vs : List V} {ds : List PyData}, DpAll K H vs ds → vs.length = ds.length
  | _, _, .nil => rfl
  | _, _, .cons _ r => congrArg Nat.succ (dpAll_len r)
theorem dpAll_get {K : PySem.W.Frag} {H : Hp} : ∀ {vs : List V} {ds : List PyData} {i : Nat} {v : V} {d : PyData}, DpAll K H vs ds → vs[i]? = some v → ds[i]? = some d → Dp K H v d
  | _, _, _, _, _, .nil, h, _ => by cases h
  | _, _, 0, _, _, .cons h _, e1, e2 => by
    cases e1
    cases e2
    exact h
  | _, _, i + 1, _, _, .cons _ r, e1, e2 => dpAll_get (i := i) r (by simpa using e1) (by simpa using e2)
/-- data of a bounded depth, its sequences bounded -/
def DOk : Nat → PyData → Prop
  | 0, _ => False
  | n + 1, .list ds => ds.length ≤ 1000 ∧ ∀ d ∈ ds, DOk n d
  | n + 1, .tuple ds => ds.length ≤ 1000 ∧ ∀ d ∈ ds, DOk n d
  | _ + 1, .dict _ => False
  | _ + 1, _ => True
def spLike (K : PySem.W.Frag) (n : Nat) : Sp := fun vs H Q _ => ∃ x y d, vs = [x, y] ∧ Dp K H x d ∧ Dp K H y d ∧ DOk n d ∧ ∀ H', Ex H H' → Q (.bl true) H'
theorem fnOk_no {P : Program} {w : World} {K : PySem.W.Frag} {mg : Str → Option Value} {base : Heap} {CX : CXT} {k : Nat} {f : Addr} {fd : FuncData} {ps : List Str} {sp : Sp} (h : ∀ vs H Q E, sp vs H Q E → False) : FnOk P w K mg base CX k f fd ps sp :=
  ⟨fun vs H Q E q => (h _ _ _ _ q).elim, fun _ _ _ _ _ _ _ _ _ _ _ _ _ q => (h _ _ _ _ q).elim⟩
theorem like_no {K : PySem.W.Frag} : ∀ vs H Q E, spLike K 0 vs H Q E → False := fun vs H Q E h => by
  obtain ⟨x, y, d, _, _, _, ok, _⟩ := h
  exact ok
theorem ite_tE {c : Bool} {A B : Prop} (h : c = true) (k : A) : if c = true then A else B := by rw [if_pos h]; exact k
theorem ite_fE {c : Bool} {A B : Prop} (h : c = false) (k : B) : if c = true then A else B := by rw [h]; exact ite_f k
theorem ev_blT {c : Bool} {Q : VK} {H : Hp} (h : c = true) (k : Q (.bl true) H) : Q (.bl c) H := by rw [h]; exact k
end Z

set_option Elab.async false
set_option linter.all false
set_option maxRecDepth 100000
namespace Z
open PySem L2
/-! a display with a star -/
def tStarT (K : PySem.W.Frag) (te : TE) (tr : TA) : TA := fun σ H Q => te σ H fun x H1 => ∃ a us, x = .ref a ∧ SqT K H1 a us ∧ tr σ H1 fun vs H2 => Q (us ++ vs) H2
theorem pa_starT {X : Cx} {e : Expr} {es : List Expr} {te : TE} {t : TA} {p : Pos} (he : PE X e te) (hr : PA X es t) (hs : starEach (.Starred e p :: es) X.env = (true, eval e X.env) :: starEach es X.env := by rfl) : PA X (.Starred e p :: es) (tStarT X.K te t) := by
  refine ⟨fun pos pins s σ H Q I h => ?_⟩
  refine PySem.W.items_star (thn (he.run pins s σ H _ I h) fun u s1 ⟨x, H1, I1, r1, a, us, ex, ha, q⟩ => ?_) hs
  subst ex
  obtain rfl : u = Value.ref a := r1
  exact star_tup I1 ha fun ws s2 I2 rw' => thn (hr.run pos pins s2 σ H1 _ I2 q) fun zs s3 ⟨vs, H2, I3, r2, q2⟩ => ⟨us ++ vs, H2, I3, rw'.append r2, q2⟩
theorem s_star {K : PySem.W.Frag} {te : TE} {tr : TA} {σ : L2.St} {H : Hp} {Q : List V → Hp → Prop} (h : te σ H fun x H1 => ∃ a us, x = .ref a ∧ SqT K H1 a us ∧ tr σ H1 fun vs H2 => Q (us ++ vs) H2) : tStarT K te tr σ H Q := h
/-! a target of several names, its library part named -/
theorem pg_tupK {X : Cx} {K : PySem.W.Frag} {es : List Expr} {k : Nat} {t : TGs} (n : Nat) {pos : Pos} (hK : X.K = K) (hc : X.calm = true) (h : PGs X es t)
    (hn : (assignEach es X.env).length = n := by rfl) (hst : (assignEach es X.env).findIdx? (·.1) = none := by rfl) : PG X (.Tuple es k pos) (gTup K n t) := by
  subst hK
  exact pg_tup hc h hn hst
/-! t > u, tuples of ints -/
def rGtT2 (K : PySem.W.Frag) : R2 := fun x y H Q => ∃ (a b : Addr) (p q r s : Int), x = .ref a ∧ y = .ref b ∧ SqT K H a [.int p, .int q] ∧ SqT K H b [.int r, .int s] ∧ Q (.bl (decide (r < p ∨ (r = p ∧ s < q)))) H
theorem op_gtT2 {X : Cx} (hu : X.A.units < cLine) : OpR X (compareOp .Gt) (rGtT2 X.K) := by
  intro pins st σ H x y v u Q I rx ry h
  obtain ⟨a, b, p, q, r, s, rfl, rfl, ha, hb, k⟩ := h
  obtain rfl : v = Value.ref a := rx
  obtain rfl : u = Value.ref b := ry
  obtain ⟨its, r1, p1, _⟩ := I.tuple ha
  obtain ⟨jts, r2, p2, _⟩ := I.tuple hb
  cases r1 with
  | cons h1 r1 =>
    cases r1 with
    | cons h2 r1 =>
      cases r1
      cases r2 with
      | cons h3 r2 =>
        cases r2 with
        | cons h4 r2 =>
          cases r2
          obtain ⟨t1, rfl⟩ := h1
          obtain ⟨t2, rfl⟩ := h2
          obtain ⟨t3, rfl⟩ := h3
          obtain ⟨t4, rfl⟩ := h4
          have zz : ∀ m n : Int, (m == n) = decide (m = n) := fun m n => by
            by_cases w : m = n
            · rw [decide_eq_true w]
              exact beq_iff_eq.mpr w
            · rw [decide_eq_false w]
              exact beq_eq_false_iff_ne.mpr w
          have G := Ob.RcOp.tuples_gt (A := X.A) (s := st) (e := fun j => if j = 0 then decide (p = r) else decide (q = s)) (r := fun j => if j = 0 then decide (r < p) else decide (s < q)) p1 p2 hu
            (fun j h1 h2 => by
              have : j = 0 ∨ j = 1 := by
                simp at h1
                omega
              rcases this with rfl | rfl
              · rw [if_pos rfl, ← zz]
                exact SeqAt.EqAt.int_int _ _ _ _
              · rw [if_neg (by decide), ← zz]
                exact SeqAt.EqAt.int_int _ _ _ _)
            (fun j h1 h2 _ => by
              have : j = 0 ∨ j = 1 := by
                simp at h1
                omega
              rcases this with rfl | rfl
              · rw [if_pos rfl]
                exact Ob.RcOp.gt_int _ _ _ _
              · rw [if_neg (by decide)]
                exact Ob.RcOp.gt_int _ _ _ _)
          have en : Ob.lexAt (fun j => if j = 0 then decide (p = r) else decide (q = s)) (fun j => if j = 0 then decide (r < p) else decide (s < q)) (decide ((2 : Nat) > 2)) 0 2 = decide (r < p ∨ (r = p ∧ s < q)) := by
            rw [Ob.lexAt_succ, Ob.lexAt_succ, Ob.lexAt_zero]
            by_cases e1 : p = r
            · subst e1
              by_cases e2 : q = s
              · subst e2
                simp
              · simp [e2]
            · have : (r < p ∨ (r = p ∧ s < q)) ↔ r < p := ⟨fun h => h.elim id fun h => absurd h.1.symm e1, .inl⟩
              simp [e1, this]
          have G' : wpAny (model X.prog X.w) X.A (compareOp .Gt (.ref a) (.ref b)) (EP X pins σ Q) X.xe st := G X.prog X.w X.xe (EP X pins σ Q) ⟨.bl _, H, I, rfl, by
            have k' := k
            rw [← en] at k'
            exact k'⟩
          exact G'
theorem s_gtT2 {K : PySem.W.Frag} {H : Hp} {Q : VK} {a b : Addr} {p q r s : Int} (ha : SqT K H a [.int p, .int q]) (hb : SqT K H b [.int r, .int s]) (k : Q (.bl (decide (r < p ∨ (r = p ∧ s < q)))) H) : rGtT2 K (.ref a) (.ref b) H Q := ⟨a, b, p, q, r, s, rfl, rfl, ha, hb, k⟩
/-! set of a list of ints -/
section
open PySem.Spec PyProof.Rows
variable {P : Program} {w : World} {A : Around}
theorem set_upd {R : Result → Shared → Prop} {J : Addr} {fp wr : List Addr} {G : Array GenState → Array GenState → Prop} {n : Nat} {T : Nat → Value → Prop} {Z : Nat → Shared → Prop}
    (W : WalksS P w A.in1 J fp wr G n T Z) (a : Addr) (ha : a ∉ fp) (ns : List Int) (en : ns.length = n) (ht : ∀ i v, T i v → ∃ t, v = .int (ns.getD i 0) t) (room : n + 1 < scanBound) :
    ∀ (k i m : Nat) (s : Shared) (S : Int → Bool), n - i = k → i ≤ n → Z i s → SetR w s.heap a S m → m ≤ i → (∀ x, S x = true ↔ x ∈ ns.take i) →
      (∀ s' S' m', Moved (a :: wr) G s s' → SetR w s'.heap a S' m' → m' ≤ n → (∀ x, S' x = true ↔ x ∈ ns) → R (.ok (.ret .none)) s') →
      codeAny (model P w) A (.builtin "set.update.loop" ⟨[.ref a, .ref J], []⟩) R s
  | 0, i, m, s, S, hk, hi, hz, hS, hm, hx, hR => by
    obtain rfl : i = n := by omega
    refine codeAny_builtin PyProof.Rows.F.entry_set_update_loop ?_
    rw [PySem.Around.under_plainId PyProof.Rows.F.plain_set_update_loop _]
    refine wpAny_bind (m := pyNext (.ref J)) (W.done s _ _ hz fun s' mv => ?_)
    refine wpAny_pure (hR s' S m (mv.mono fun b hb => List.mem_cons_of_mem _ hb) (hS.at fun o e => mv.heap a _ (fun z => ha (W.sub _ z)) e) hm fun x => ?_)
    rw [hx, ← en, List.take_length]
  | k + 1, i, m, s, S, hk, hi, hz, hS, hm, hx, hR => by
    have lt : i < n := by omega
    have sb : ∀ b ∈ wr, b ∈ a :: wr := fun b hb => List.mem_cons_of_mem _ hb
    refine codeAny_builtin PyProof.Rows.F.entry_set_update_loop ?_
    rw [PySem.Around.under_plainId PyProof.Rows.F.plain_set_update_loop _]
    refine wpAny_bind (m := pyNext (.ref J)) (W.item i s _ _ lt hz fun v s' hv hz' mv => ?_)
    obtain ⟨t, rfl⟩ := ht i v hv
    have hS' : SetR w s'.heap a S m := hS.at fun o e => mv.heap a _ (fun z => ha (W.sub _ z)) e
    show wpAny _ A.in1 (holding [Value.int (ns.getD i 0) t] (setAdd a (.int (ns.getD i 0) t)) >>= _) _ _ s'
    refine wpAny_bind (wpAny_holding ?_)
    unfold setAdd
    refine wpAny_holding (wpAny_bind ((intKind P w).pyHash (intKind_is P w (ns.getD i 0) t) ?_))
    refine setR_add_hashed (s := { s' with toks := s'.toks + 1 }) hS' (by omega) fun h' hb hS2 => ?_
    refine wpAny_pure ⟨plainId_quiet PyProof.Rows.F.plain_set_update_loop _, set_upd W a ha ns en ht room k (i + 1) _ _ _ (by omega) lt (W.frame _ s' _ _ hz' (Nat.le_succ _) fun b hb' o e => ?_) hS2 (by split <;> omega) (fun x => ?_) fun s2 S2 m2 mv2 hS3 hm3 hx3 => ?_⟩
    · rw [hb.2 b (fun h : b = a => ha (by rw [← h]; exact hb'))]
      exact e
    · rw [Bool.or_eq_true, decide_eq_true_eq, hx x, List.take_succ, List.mem_append, List.getElem?_eq_getElem (by omega), Option.toList_some, List.mem_singleton, List.getD_eq_getElem?_getD, List.getElem?_eq_getElem (by omega), Option.getD_some]
    · refine hR s2 S2 m2 (Moved.trans W.gtrans ((mv.mono sb).then_heap (Nat.le_succ _) fun b o hb' e => ?_) mv2) hS3 hm3 hx3
      rw [hb.2 b (fun h : b = a => hb' (by rw [h]; exact List.mem_cons_self))]
      exact e
theorem set_new1 {E : Value → Shared → Prop} {s : Shared} (a : Value) {Q : Value → Shared → Prop}
    (h : Q (.ref s.heap.objs.size) { s with heap := s.heap.push { cls := .type "set", dict := none, data := .set #[] 0 (.fresh 0 0 (!w.params.followText "set-order")) } }) :
    codeAny (model P w) A (.call (.builtin "set.__new__") ⟨[.type "set", a], []⟩) (wants Q E) s := by
  refine codeAny_of_tree ?_
  refine wpAny_bind (m := checkBuiltinCall "set.__new__" _) (wpAny_of_eq (PySem.F.newCall_set_1 a) (wpAny_pure ⟨plainId_quiet F.plain_set_new _, codeAny_builtin F.entry_set_new ?_⟩))
  rw [PySem.Around.under_plainId F.plain_set_new _]
  unfold Builtin.«set.__new__» Builtin.Frozenset.newClass
  have sub := sub_set_self
  obtain ⟨hp, g, d, tk, os⟩ := s
  dsimp only
  wp_walk
  refine wpAny_askSetting (wpAny_pure ?_)
  simp only [newObj]
  exact wpAny_bind (wpAny_alloc (wpAny_pure (wpAny_pure h)))
set_option maxHeartbeats 4000000 in
theorem set_call1 {E : Value → Shared → Prop} {s : Shared} {l : Addr} {its : Array Value} {ns : List Int} {Q : Value → Shared → Prop}
    (calm : A.handled = none) (hl : s.heap.IsList l its) (hi : IntsAre its.toList ns) (room : its.size + 1 < scanBound)
    (h : ∀ (h' : Heap) (tk : Nat) (S : Int → Bool) (m : Nat), SetR w h' s.heap.objs.size S m → m ≤ ns.length → (∀ x, S x = true ↔ x ∈ ns) → (∀ b o, s.heap.get? b = some o → h'.get? b = some o) → Q (.ref s.heap.objs.size) { s with heap := h', toks := tk }) :
    wpAny (model P w) A (call (.type "set") [.ref l]) Q E s := by
  obtain ⟨c, tl, cm⟩ := F.called_set.mro
  have c1 := F.called_set.made
  have c2 := F.called_set.sub
  refine wpAny_call (codeAny_of_tree ?_)
  show wpAny _ _ (callAny (.type "set") _) _ _ _
  refine wpAny_pure ⟨Code.quiet_builtin _ (by decide +kernel), codeAny_builtin F.entry_type_call ?_⟩
  rw [PySem.Around.under_plain (weight_type_call_type "set" [.ref l] []) rfl]
  have c3 := F.called_set.notType
  have c4 := F.called_set.canCreate
  have c5 := PySem.F.typeCall_set_1 (.ref l)
  repeat (any_goals (first | assumption | wp_step))
  generalize eO : (!w.params.followText "set-order") = led
  refine codeAny_mono (set_new1 (.ref l) (E := E) (Q := fun v s1 => v = .ref s.heap.objs.size ∧ s1 = { s with heap := s.heap.push { cls := .type "set", dict := none, data := .set #[] 0 (.fresh 0 0 led) } }) (by rw [eO]; exact ⟨rfl, rfl⟩)) fun r s1 hr => ?_
  cases r with
  | error e => exact hr
  | ok fl =>
    cases fl with
    | ret v =>
      obtain ⟨rfl, rfl⟩ := hr
      have hO : (s.heap.push { cls := .type "set", dict := none, data := .set #[] 0 (.fresh 0 0 led) }).get? s.heap.objs.size = some { cls := .type "set", dict := none, data := .set #[] 0 (.fresh 0 0 led) } := Heap.get?_push_size _ rfl
      have hT : Shared.TypeIs { s with heap := s.heap.push { cls := .type "set", dict := none, data := .set #[] 0 (.fresh 0 0 led) } } (.ref s.heap.objs.size) "set" := ⟨_, hO, rfl⟩
      have c6 := F.called_set.init.lookup
      have c7 := F.called_set.init.bind (.ref s.heap.objs.size)
      have hR0 : SetR w (s.heap.push { cls := .type "set", dict := none, data := .set #[] 0 (.fresh 0 0 led) }) s.heap.objs.size (fun _ => false) 0 := by
        rw [← eO]
        exact setR_fresh w
      repeat (any_goals (first | assumption | wp_step))
      refine codeAny_mono (codeAny_call_builtin (R := wants (fun r s2 => r = .none ∧ ∃ h' tk S m, s2 = { s with heap := h', toks := tk } ∧ SetR w h' s.heap.objs.size S m ∧ m ≤ ns.length ∧ (∀ x, S x = true ↔ x ∈ ns) ∧ (∀ b o, s.heap.get? b = some o → h'.get? b = some o)) E)
        F.called_set.init.plain F.entry_set_init (PySem.check_set_init_1 hT ?_)) fun r2 s2 hr2 => ?_
      · obtain ⟨⟨oc, od, oo, os⟩, g1, g2, nl, g3⟩ := hl
        simp only at g2 g3
        subst g2
        subst g3
        have g4 : (s.heap.push { cls := .type "set", dict := none, data := .set #[] 0 (.fresh 0 0 led) }).get? l = some { cls := .type "list", dict := od, data := .seq its nl, slots := os } := Heap.get?_push_of_some _ g1
        have n1 := PySem.F.sub_list_set
        have n2 := PySem.F.sub_list_frozenset
        have n3 : (Value.type "list" == Value.type "dict") = false := by decide
        have g5 : (s.heap.push { cls := .type "set", dict := none, data := .set #[] 0 (.fresh 0 0 led) }).IsList l its := ⟨_, g4, rfl, nl, rfl⟩
        unfold Builtin.«set.__init__» noKeywords Builtin.Frozenset.updateFrom
        generalize hPI : pyIter = PI
        wp_walk
        subst hPI
        refine wpAny_pyIter_list g5 ?_
        refine wpAny_bind (wpAny_runValue ?_)
        have lt : l < s.heap.objs.size := Heap.lt_size g1
        have calm3 : A.in1.in1.in1.handled = none := by simp [calm]
        have ne1 : l ≠ (s.heap.push { cls := .type "set", dict := none, data := .set #[] 0 (.fresh 0 0 led) }).objs.size := by
          rw [Heap.size_push]
          exact Nat.ne_of_lt (Nat.lt_succ_of_lt lt)
        have ne2 : s.heap.objs.size ∉ [(s.heap.push { cls := .type "set", dict := none, data := .set #[] 0 (.fresh 0 0 led) }).objs.size, l] := by
          rw [Heap.size_push]
          simp only [List.mem_cons, List.mem_singleton, List.not_mem_nil, or_false, not_or]
          exact ⟨Nat.ne_of_lt (Nat.lt_succ_self _), Nat.ne_of_gt lt⟩
        refine set_upd ((Walks.list calm3 _ l ne1 its).toS) s.heap.objs.size ne2 ns (by rw [← hi.length, Array.length_toList]) (fun i v hv => PyProof.Rows.IntsAre.int_at hi i v (by rw [Array.getElem?_toList]; exact hv)) room (its.size - 0) 0 0 _ _ (by omega) (Nat.zero_le _)
          ⟨⟨_, Heap.get?_push_size _ rfl, rfl, rfl⟩, g5.push _⟩ (hR0.at fun o e => Heap.get?_push_of_some _ e) (Nat.le_refl _) (fun x => by simp) fun s' S' m' mv hS hm hx => ?_
        obtain ⟨h', g', d', tk', os'⟩ := s'
        obtain rfl : g' = s.gens := mv.gens
        obtain rfl : d' = s.drawn := mv.drawn
        obtain rfl : os' = s.os := mv.os
        refine wpAny_pure (wpAny_pure ⟨rfl, h', tk', S', m', rfl, hS, by rw [← hi.length, Array.length_toList]; exact hm, hx, fun b o e => ?_⟩)
        have b1 := Heap.lt_size e
        refine mv.heap b o ?_ (Heap.get?_push_of_some _ (Heap.get?_push_of_some _ e))
        rw [Heap.size_push]
        simp only [List.mem_cons, List.mem_singleton, List.not_mem_nil, or_false, not_or]
        exact ⟨Nat.ne_of_lt b1, Nat.ne_of_lt (Nat.lt_succ_of_lt b1)⟩
      · cases r2 with
        | error e => exact hr2
        | ok fl2 =>
          cases fl2 with
          | ret r =>
            obtain ⟨rfl, h', tk, S, m, rfl, q1, q2, q3, q4⟩ := hr2
            repeat (any_goals (first | assumption | wp_step))
            exact h _ _ _ _ q1 q2 q3 q4
          | _ => exact hr2.elim
    | _ => exact hr.elim
end
def rSetL (w : World) (K : PySem.W.Frag) : List V → Hp → VK → Prop := fun xs H Q => ∃ (a : Addr) (ns : List Int), xs = [V.ref a] ∧ SqL K H a (ns.map V.int) ∧ ns.length + 1 < scanBound ∧ ∀ p S m, H p = none → m ≤ ns.length → (∀ x, S x = true ↔ x ∈ ns) → Q (.ref p) (upd H p (SetO w p S m))
theorem cr_setL {X : Cx} (hc : X.calm = true) : CallR X (.type "set") (rSetL X.w X.K) := by
  intro pins s σ H xs us Q I r h
  obtain ⟨a, ns, rfl, ha, room, q⟩ := h
  obtain ⟨its, rv, hl, _⟩ := I.list ha
  rw [Vals.ref1 r]
  have hi := rv.ints
  exact set_call1 (I.ok.hd hc) hl.isList hi (by rw [List.size_toArray, hi.length]; exact room) fun h' tk S m hS hm hx keep => ⟨.ref _, _, I.laid (t' := tk) keep (Nat.le_refl _) (setO_new hS), rfl, q _ S m (I.hok.fresh (Nat.le_refl _)) hm hx⟩
theorem s_setOf {w : World} {K : PySem.W.Frag} {H : Hp} {Q : VK} {a : Addr} {ns : List Int} (ha : SqL K H a (ns.map V.int)) (room : ns.length + 1 < scanBound) (k : ∀ p S m H', H p = none → Ex H H' → H' p = some (SetO w p S m) → m ≤ ns.length → (∀ x, S x = true ↔ x ∈ ns) → Q (.ref p) H') : rSetL w K [.ref a] H Q :=
  ⟨a, ns, rfl, ha, room, fun p S m hp h1 h2 => k p S m _ hp (Ex.new hp) upd_same h1 h2⟩
theorem s_sortedSet {w : World} {H : Hp} {Q : VK} {a : Addr} {S : Int → Bool} {m : Nat} (ha : H a = some (SetO w a S m)) (room : m < 64) (k : ∀ (ns : List Int) p H', ns.Pairwise (· < ·) → (∀ x : Int, x ∈ ns ↔ S x = true) → ns.length = m → H p = none → Ex H H' → H' p = some (.lst (ns.map V.int)) → Q (.ref p) H') : rSortedSet w [.ref a] H Q :=
  ⟨a, S, m, rfl, ha, room, fun ns p h1 h2 h3 hp => k ns p _ h1 h2 h3 hp (Ex.new hp) upd_same⟩
end Z

set_option Elab.async false
set_option linter.all false
set_option maxRecDepth 100000
namespace Z
open PySem L2
/-! instances of an own class: ==, !=, str, repr by their own methods -/
section
open PySem.W PyProof.Rows
variable {P : Program} {w : World} {A : Around} {E : Value → Shared → Prop} {s : Shared} {K : Frag} {x C L f : Addr} {h0 : Heap} {m : Str → Option Value} {ox : Obj} {od : Option Obj} {b tb : Value}
theorem ifBoundB {M : Model} {name : Str} {id : String} {args : List Value} {Q : Option Value → Shared → Prop} (X : K.In s.heap) (I : InstAt s.heap x ox C od) (hs : findIn K (.ref C) name = some (some (.builtin id)))
    (hb : ∀ v, bindSpecial (.builtin id) v = pure (.builtin id, [v])) (h : wpAny M A (call (.builtin id) (.ref x :: args)) (fun v => Q (some v)) E s) : wpAny M A (callSpecialIfBound? (.ref x) name args) Q E s := by
  simp only [callSpecialIfBound?, bindSpecialIfBound?]
  refine wpAny_holding (wpAny_bind (wpAny_bind (wpAny_bind (I.type.here ((looks_findIn X hs).here ?_)))))
  refine wpAny_bind (wpAny_askSetting (wpAny_ite ?_))
  have last : wpAny M A (call (.builtin id) ([.ref x] ++ args) >>= fun v => pure (some v)) Q E s := wpAny_bind (wpAny_mono h (fun v s' z => wpAny_pure z) fun _ _ z => z)
  split
  · exact wpAny_bind ((Looks.of_pure (hb _)).here (wpAny_pure (by exact last)))
  · exact wpAny_tryCatch (wpAny_bind ((Looks.of_pure (hb _)).here (wpAny_pure (by exact last))))
open Builtin in
theorem ne_slot {Q : Value → Shared → Prop} (hu : A.in1.units < cLine) (X : K.In s.heap) (I : InstAt s.heap x ox C od) (ho : mroIn K C (.type "object") = some true) (he : findIn K (.ref C) "__eq__" = some (some (.ref f))) (hf : isFn K (.ref f) = true)
    (h : wpAny (model P w) A.in1 (call (.ref f) [.ref x, b]) (fun v s' => ∃ r, v = .bool r ∧ Q (.bool (!r)) s') E s) : wpAny (model P w) A (call (.builtin "object.__ne__") [.ref x, b]) Q E s := by
  refine wpAny_call (codeAny_call_builtin (by decide +kernel) PySem.F.cmpEntry_ne (check_slot (i := "object.__ne__") (owner := "object") (n := "__ne__") (by decide +kernel) (by decide +kernel) (I.type.andThen (looks_mroIn X ho)) (PySem.F.cmpArgs_ne _ _) ?_))
  unfold Builtin.«object.__ne__»
  refine wpAny_bind (m := slotArgs "__ne__" 1 _) (wpAny_pure ?_)
  refine wpAny_bind (m := cRoomFor _ _) (wpAny_cRoomFor hu ?_)
  refine wpAny_bind (m := callSpecialIfBound? (.ref x) (Str.ofString "__eq__") _) (ifBound_K X I he hf (wpAny_mono h (fun r s' hq => ?_) fun _ _ y => y))
  obtain ⟨r, rfl, hq⟩ := hq
  exact wpAny_bind (wpAny_truthy_bool (wpAny_pure hq))
theorem ne_own {Q : Value → Shared → Prop} (hu : A.units < cLine) (hu1 : A.in1.units < cLine) (X : K.In s.heap) (I : InstAt s.heap x ox C od) (hb : Looks (model P w) s.heap (typeOf b) tb) (hn : notFirst K C tb = true)
    (hs : findIn K (.ref C) "__ne__" = some (some (.builtin "object.__ne__"))) (ho : mroIn K C (.type "object") = some true) (he : findIn K (.ref C) "__eq__" = some (some (.ref f))) (hf : isFn K (.ref f) = true)
    (h : wpAny (model P w) A.in1 (call (.ref f) [.ref x, b]) (fun v s' => ∃ r, v = .bool r ∧ Q (.bool (!r)) s') E s) : wpAny (model P w) A (richCompare .NotEq (.ref x) b) Q E s := by
  have one : wpAny (model P w) A (tryCompare (.ref x) "__ne__" b) (fun r s' => ∃ v, r = some v ∧ Q v s') E s := by
    unfold tryCompare
    refine wpAny_bind (ifBoundB X I hs PySem.F.slot_tuple_iterator_ne.bind (ne_slot hu1 X I ho he hf (wpAny_mono h (fun v s' hv => ?_) fun _ _ e => e)))
    obtain ⟨r, rfl, hq⟩ := hv
    exact ⟨r, rfl, wpAny_pure ⟨_, rfl, hq⟩⟩
  unfold richCompare
  simp only [oneThing_ref]
  refine wpAny_holding (wpAny_bind (wpAny_cRoomFor hu ?_))
  refine wpAny_bind (I.type.here (wpAny_bind (hb.here ?_)))
  split
  · rename_i q
    have e : subIn K tb (.ref C) = some false := by
      rcases Bool.or_eq_true_iff.mp hn with e | e
      · rw [beq_iff_eq.mp e] at q
        simp at q
      · exact beq_iff_eq.mp e
    refine wpAny_bind ((looks_subIn X e).here ?_)
    simp only [Bool.false_eq_true, if_false]
    refine wpAny_bind (wpAny_mono one (fun r s' z => ?_) fun _ _ e => e)
    obtain ⟨v, rfl, hq⟩ := z
    exact wpAny_pure hq
  · refine wpAny_bind (wpAny_pure ?_)
    simp only [Bool.false_eq_true, if_false]
    refine wpAny_bind (wpAny_mono one (fun r s' z => ?_) fun _ _ e => e)
    obtain ⟨v, rfl, hq⟩ := z
    exact wpAny_pure hq
open Builtin in
theorem repr_own {Q : Value → Shared → Prop} (hu : A.in1.units < cLine) (X : K.In s.heap) (I : InstAt s.heap x ox C od) (hs : findIn K (.ref C) "__repr__" = some (some (.ref f))) (hf : isFn K (.ref f) = true)
    (h : wpAny (model P w) A.in1 (call (.ref f) [.ref x]) (fun v s' => ∃ y t, v = .str y t ∧ Q v s') E s) : wpAny (model P w) A (call (.builtin "repr") [.ref x]) Q E s := by
  refine Calls.call_function_entry PySem.F.kind_repr PySem.F.plain_repr PySem.F.entry_repr (PySem.F.args_repr1 _) ?_
  unfold Builtin.«repr»
  refine wpAny_bind (m := oneArg "repr" _) (wpAny_pure ?_)
  refine wpAny_bind (m := cRoomFor _ _) (wpAny_cRoomFor hu ?_)
  refine wpAny_bind (m := specialOf (.ref x) (Str.ofString "__repr__")) (wpAny_bind (I.type.here ((looks_findIn X hs).here ?_)))
  simp only [Option.isNone_some, Bool.false_eq_true, if_false]
  refine wpAny_bind (m := callSpecialIfBound? (.ref x) (Str.ofString "__repr__") _) (ifBound_K X I hs hf (wpAny_mono h (fun r s' hq => ?_) fun _ _ y => y))
  obtain ⟨y, t, rfl, hq⟩ := hq
  refine wpAny_bind (wpAny_isInstance (T := "str") (b := true) (typeIs_str _ _ _) isSubtype_str_str ?_)
  rw [if_pos rfl]
  exact wpAny_pure ⟨_, rfl, hq⟩
end
section
variable {X : Cx} {n : Nat} {pins : List (Addr × Obj)} {σ : L2.St} {H : Hp} {s : Shared} {A : Around} {CX : CXT} {f : Addr} {fd : FuncData} {ps : List Str} {sp : Sp} {E : XK} {C a : Addr}
theorem own_call {us : List Value} {vs : List V} {Q : VK} (F : FnOk X.prog X.w X.K X.mg X.base CX n f fd ps sp) (hb : Binds X.K fd ps []) (hx : Passes CX X E) (sb : Sub X n A) (I : Inv X pins σ H s) (r : Vals vs us) (h : sp vs H Q E) :
    wpAny (model X.prog X.w) A (call (.ref f) us) (EP X pins σ Q) X.xe s := by
  have e0 : Env0 X.prog X.w X.K X.mg X.base A X.stack s H := by
    have e := I.env0
    exact ⟨by rw [sb.fr]; exact e.frames, e.mod, e.bs, e.bsz, e.funs, e.frf, e.hok, e.bare⟩
  have hl := F.len _ _ _ _ h
  have hb2 := hb s us I.kIn (by rw [List.append_nil, ← r.length]; exact hl)
  rw [List.append_nil] at hb2
  refine wpAny_call (codeAny_mono (F.run A X.stack s H ⟨us, []⟩ us vs _ E sb.room e0 hb2 r h) fun q s' hq => ?_)
  cases q with
  | error e => exact hx pins σ H s e s' I hq
  | ok fl =>
    cases fl with
    | ret u => exact I.after hq
    | next => exact False.elim hq
    | brk => exact False.elim hq
    | cont => exact False.elim hq
theorem own_at (I : Inv X pins σ H s) {dx : Addr} {fs : List (Str × V)} (h : H a = some (.ins C dx fs)) : ∃ ox od, PySem.W.InstAt s.heap a ox C od := by
  obtain ⟨mA, J, _⟩ := ins_get I.hok h
  obtain ⟨od, J, _⟩ := J.look
  exact ⟨_, _, J⟩
/-- what of the text a class with its own == must have -/
structure OwnE (K : PySem.W.Frag) (C f : Addr) : Prop where
  eq : PySem.W.findIn K (.ref C) "__eq__" = some (some (.ref f))
  fn : PySem.W.isFn K (.ref f) = true
  ne : PySem.W.findIn K (.ref C) "__ne__" = some (some (.builtin "object.__ne__"))
  ob : PySem.W.mroIn K C (.type "object") = some true
def rEqO (K : PySem.W.Frag) (C : Addr) (sp : Sp) (E : XK) : R2 := fun x y H Q => ∃ a dx fs tb, x = .ref a ∧ H a = some (.ins C dx fs) ∧ TyX K H y tb ∧ PySem.W.notFirst K C tb = true ∧ sp [x, y] H Q E
def rNeO (K : PySem.W.Frag) (C : Addr) (sp : Sp) (E : XK) : R2 := fun x y H Q => ∃ a dx fs tb, x = .ref a ∧ H a = some (.ins C dx fs) ∧ TyX K H y tb ∧ PySem.W.notFirst K C tb = true ∧ sp [x, y] H (fun v H' => ∃ c, v = .bl c ∧ Q (.bl (!c)) H') E
theorem rc_own {A : Around} {sb : Sub X n A} (F : FnOk X.prog X.w X.K X.mg X.base CX n f fd ps sp) (hb : Binds X.K fd ps []) (hx : Passes CX X E) (O : OwnE X.K C f) (I : Inv X pins σ H s) {x y : V} {v u : Value} (rx : RelV x v) (ry : RelV y u) {Q : VK}
    (h : rEqO X.K C sp E x y H Q) : wpAny (model X.prog X.w) A (richCompare .Eq v u) (EP X pins σ Q) X.xe s := by
  obtain ⟨a, dx, fs, tb, rfl, ha, ty, nf, hq⟩ := h
  obtain rfl : v = Value.ref a := rx
  obtain ⟨ox, od, J⟩ := own_at I ha
  obtain ⟨Pk, kt, hp, _⟩ := kit_of I ry ty
  obtain ⟨m, hF⟩ := I.fr
  refine PySem.W.cmp_K (op := .Eq) sb.room.units0 hF I.ok.mod.kin J (kt.ty _ _ I.kIn hp) nf O.eq O.fn (wpAny_mono (own_call (vs := [.ref a, y]) F hb hx sb I (.cons (show Value.ref a = Value.ref a from rfl) (.cons ry .nil)) hq) (fun r s' z => ?_) fun _ _ e => e)
  obtain ⟨w, H', I', rw', hw⟩ := z
  cases r <;> first | exact ⟨w, H', I', rw', hw⟩ | (exfalso; cases w <;> first | exact nomatch rw' | (obtain ⟨_, e⟩ := rw'; exact nomatch e))
theorem op_eqO (F : FnOk X.prog X.w X.K X.mg X.base CX n f fd ps sp) (hr : Room n X.A) (hb : Binds X.K fd ps []) (hx : Passes CX X E) (O : OwnE X.K C f) : OpR X (compareOp .Eq) (rEqO X.K C sp E) := by
  intro pins s σ H x y v u Q I rx ry h
  exact rc_own (sb := ⟨hr, rfl⟩) F hb hx O I rx ry h
theorem op_neO (F : FnOk X.prog X.w X.K X.mg X.base CX n f fd ps sp) (hr : Room (n + 1) X.A) (hb : Binds X.K fd ps []) (hx : Passes CX X E) (O : OwnE X.K C f) : OpR X (compareOp .NotEq) (rNeO X.K C sp E) := by
  intro pins s σ H x y v u Q I rx ry h
  obtain ⟨a, dx, fs, tb, rfl, ha, ty, nf, hq⟩ := h
  obtain rfl : v = Value.ref a := rx
  obtain ⟨ox, od, J⟩ := own_at I ha
  obtain ⟨Pk, kt, hp, _⟩ := kit_of I ry ty
  show wpAny (model X.prog X.w) X.A (richCompare .NotEq (.ref a) u) (EP X pins σ Q) X.xe s
  have sb : Sub X n X.A.in1 := Sub.in1 (X := X) (A := X.A) ⟨hr, rfl⟩
  refine ne_own hr.units0 sb.room.units0 I.kIn J (kt.ty _ _ I.kIn hp) nf O.ne O.ob O.eq O.fn (wpAny_mono (own_call (vs := [.ref a, y]) F hb hx sb I (.cons (show Value.ref a = Value.ref a from rfl) (.cons ry .nil)) hq) (fun r s' z => ?_) fun _ _ e => e)
  obtain ⟨w, H', I', rw', c, rfl, hw⟩ := z
  cases rw'
  exact ⟨c, rfl, .bl _, H', I', rfl, hw⟩
/-- str(o), repr(o) -/
def rShow (C : Addr) (sp : Sp) (E : XK) : List V → Hp → VK → Prop := fun vs H Q => ∃ a dx fs, vs = [V.ref a] ∧ H a = some (.ins C dx fs) ∧ sp [.ref a] H (fun v H' => ∃ y, v = .str y ∧ Q v H') E
theorem cr_strO (F : FnOk X.prog X.w X.K X.mg X.base CX n f fd ps sp) (hr : Room (n + 2) X.A) (hb : Binds X.K fd ps []) (hx : Passes CX X E) (hs : PySem.W.findIn X.K (.ref C) "__str__" = some (some (.ref f))) (hf : PySem.W.isFn X.K (.ref f) = true) : CallR X (.type "str") (rShow C sp E) := by
  intro pins s σ H vs us Q I r h
  obtain ⟨a, dx, fs, rfl, ha, hq⟩ := h
  rw [Vals.ref1 r]
  obtain ⟨ox, od, J⟩ := own_at I ha
  have sb1 : Sub X (n + 1) X.A.in1 := Sub.in1 (X := X) (A := X.A) ⟨hr, rfl⟩
  have sb : Sub X n X.A.in1.in1 := sb1.in1
  refine PySem.W.kso_call sb.room.units0 I.kIn J hs hf (wpAny_mono (own_call (vs := [.ref a]) F hb hx sb I (.cons (show Value.ref a = Value.ref a from rfl) .nil) hq) (fun r s' z => ?_) fun _ _ e => e)
  obtain ⟨w, H', I', rw', y, rfl, hw⟩ := z
  obtain ⟨t, rfl⟩ := rw'
  exact ⟨.str y, H', I', ⟨t, rfl⟩, hw⟩
theorem cr_reprO (F : FnOk X.prog X.w X.K X.mg X.base CX n f fd ps sp) (hr : Room (n + 1) X.A) (hb : Binds X.K fd ps []) (hx : Passes CX X E) (hs : PySem.W.findIn X.K (.ref C) "__repr__" = some (some (.ref f))) (hf : PySem.W.isFn X.K (.ref f) = true) : CallR X (.builtin "repr") (rShow C sp E) := by
  intro pins s σ H vs us Q I r h
  obtain ⟨a, dx, fs, rfl, ha, hq⟩ := h
  rw [Vals.ref1 r]
  obtain ⟨ox, od, J⟩ := own_at I ha
  have sb : Sub X n X.A.in1 := Sub.in1 (X := X) (A := X.A) ⟨hr, rfl⟩
  refine repr_own sb.room.units0 I.kIn J hs hf (wpAny_mono (own_call (vs := [.ref a]) F hb hx sb I (.cons (show Value.ref a = Value.ref a from rfl) .nil) hq) (fun r s' z => ?_) fun _ _ e => e)
  obtain ⟨w, H', I', rw', y, rfl, hw⟩ := z
  obtain ⟨t, rfl⟩ := rw'
  exact ⟨y, t, rfl, .str y, H', I', ⟨t, rfl⟩, hw⟩
end
end Z
namespace Z
open PySem L2
theorem kit_self {K : PySem.W.Frag} {C : Addr} : PySem.W.kitOne K (.ref C) (.ref C) = some true := by
  unfold PySem.W.kitOne
  rw [if_pos (by simp)]
theorem kit_notown {K : PySem.W.Frag} {C : Addr} {n : String} {b : Bool} (ic : PySem.W.isClsIn K C = true) (tm : PySem.W.typeIn K (.ref C) = some (.type "type")) (e : PySem.W.subIn K (.type n) (.ref C) = some b) : PySem.W.kitOne K (.type n) (.ref C) = some b := by
  unfold PySem.W.kitOne
  rw [if_neg (fun z => nomatch (eq_of_beq z : Value.type n = Value.ref C))]
  unfold PySem.W.kitCls
  dsimp only
  rw [if_pos]
  · exact e
  · rw [Bool.and_eq_true]
    exact ⟨ic, by rw [tm]; decide⟩
/-! making one -/
theorem s_make {C : Addr} {sp : Sp} {dvs : List V} {E : XK} {t : TA} {σ : L2.St} {H : Hp} {Q : VK} (k : t σ H fun vs H1 => ∀ x dx, H1 x = none → H1 dx = none → dx ≠ x →
    sp (.ref x :: (vs ++ dvs)) (upd (upd H1 dx (.own x)) x (.ins C dx [])) (fun v H2 => v = .non ∧ Q (.ref x) H2) E) : tMake C sp dvs E t σ H Q := k
theorem s_makeK {C : Addr} {n m : Nat} {sp : Sp} {gV : List V → List V → List V} {E : XK} {t tk : TA} {σ : L2.St} {H : Hp} {Q : VK} (k : t σ H fun vs H1 => tk σ H1 fun zs H2 => vs.length = n ∧ zs.length = m ∧ ∀ x dx, H2 x = none → H2 dx = none → dx ≠ x →
  sp (gV (.ref x :: vs) zs) (upd (upd H2 dx (.own x)) x (.ins C dx [])) (fun v H3 => v = .non ∧ Q (.ref x) H3) E) : tMakeK C n m sp gV E t tk σ H Q := k
theorem s_sFld {K : PySem.W.Frag} {ta tv : TE} {f : Str} {D : Ends} {σ : L2.St} {H : Hp} (k : tv σ H fun y H1 => ta σ H1 fun x H2 => ∃ a C dx fs, x = .ref a ∧ H2 a = some (.ins C dx fs) ∧ Cls K C ∧ NoAttr K C f ∧ fs.length < 1000 ∧
  D.nx σ (upd H2 a (.ins C dx (putF f y fs)))) : sFld K ta tv f D σ H := k
end Z

set_option Elab.async false
set_option linter.all false
set_option maxRecDepth 100000
namespace Z
open PySem L2
/-! x in a list, by the items' own == -/
section
open PySem.SeqAt PySem.SeqRoads2 PySem.MeetsSeq AutoSeq1 PyProof.Rows
variable {P : Program} {w : World} {A : Around}
theorem has_loop {R : Result → Shared → Prop} {l : Addr} {x : Value} {N : Nat} {e : Nat → Bool} {I : Nat → Shared → Prop}
    (turn : ∀ i s, I i s → ∃ (its : Array Value) (n : Nat), s.heap.get? l = some { cls := .type "list", data := .seq its n } ∧ its.size = N ∧ ∀ h : i < its.size, wpAny (model P w) A.in1 (eqBool its[i] x) (fun r s' => r = e i ∧ I (i + 1) s') (fun v s' => R (.error v) s') s)
    (fin : ∀ i s b, I i s → (b = true ↔ ∃ j, j < N ∧ e j = true) → R (.ok (.ret (.bool b))) s) :
    ∀ k i : Nat, N - i = k → i ≤ N → (∀ j, j < i → e j = false) → ∀ s, I i s → wpAny (model P w) A.in1 (Builtin.«list.__contains__.loop» ⟨[.ref l, x, rawInt i], []⟩) (GQ.FinOf P w A R) (fun v s' => R (.error v) s') s
  | 0, i, hk, hi, hf, s, h => by
    obtain ⟨its, n, hl, hn, _⟩ := turn _ _ h
    obtain rfl : i = N := by omega
    have hR := fin _ s false h ⟨fun z => (Bool.false_ne_true z).elim, fun ⟨j, hj, z⟩ => by rw [hf j hj] at z; exact z⟩
    obtain ⟨hp, g, d, tk, os⟩ := s
    wp_walk using wpAny_loadPart' hl
    rw [show its[((i : Nat) : Int).toNat]? = none from by simp; omega]
    wp_walk
    exact hR
  | k + 1, i, hk, hi, hf, s, h => by
    obtain ⟨its, n, hl, hn, ht⟩ := turn _ _ h
    have lt : i < its.size := by omega
    have ht := ht lt
    obtain ⟨hp, g, d, tk, os⟩ := s
    wp_walk using wpAny_loadPart' hl
    rw [show its[((i : Nat) : Int).toNat]? = some its[i] from by simp [lt]]
    refine wpAny_bind (wpAny_mono ht (fun r s2 h2 => ?_) fun _ _ z => z)
    obtain ⟨rfl, h2⟩ := h2
    cases eb : e i with
    | true =>
      have hR := fin _ s2 true h2 ⟨fun _ => ⟨i, by omega, eb⟩, fun _ => rfl⟩
      obtain ⟨hp2, g2, d2, tk2, os2⟩ := s2
      wp_walk
      exact hR
    | false =>
      have next := has_loop turn fin k (i + 1) (by omega) (by omega) (fun j hj => by
        by_cases q : j = i
        · rw [q]; exact eb
        · exact hf j (by omega)) s2 h2
      obtain ⟨hp2, g2, d2, tk2, os2⟩ := s2
      wp_walk
      rw [show ((i : Int) + 1) = ((i + 1 : Nat) : Int) from by omega]
      exact ⟨plainId_quiet plain_contains_loop _, codeAny_builtin entry_contains_loop (by
        rw [Around.under_plainId plain_contains_loop _]
        exact next)⟩
theorem in_own {E : Value → Shared → Prop} {l : Addr} {x : Value} {N : Nat} {e : Nat → Bool} {I : Nat → Shared → Prop} {Q : Value → Shared → Prop}
    (turn : ∀ i s, I i s → ∃ (its : Array Value) (n : Nat), s.heap.get? l = some { cls := .type "list", data := .seq its n } ∧ its.size = N ∧ ∀ h : i < its.size, wpAny (model P w) A.in1 (eqBool its[i] x) (fun r s' => r = e i ∧ I (i + 1) s') E s)
    (fin : ∀ i s b, I i s → (b = true ↔ ∃ j, j < N ∧ e j = true) → Q (.bool b) s) {s : Shared} (h : I 0 s) : wpAny (model P w) A (compareOp .In x (.ref l)) Q E s := by
  obtain ⟨its, n, hl, hn, _⟩ := turn _ _ h
  show wpAny _ A (do return .bool (← contains (.ref l) x)) Q E s
  refine wpAny_bind (wpAny_contains_slot ⟨_, hl, rfl⟩ F.slot_list_contains (wpAny_mono (GQ.call_here F.slot_list_contains ⟨_, hl, rfl⟩ F.entry_list_contains (F.args_list_contains_2 _ _)
    (Q := fun v s' => ∃ b, v = .bool b ∧ Q (.bool b) s') (E := E) ?_) (fun v s' hv => ?_) fun _ _ z => z))
  · have first := has_loop (A := A) (R := wants (fun v s' => ∃ b, v = .bool b ∧ Q (.bool b) s') E) turn (fun i s' b hI hb => ⟨b, rfl, fin i s' b hI hb⟩) _ 0 rfl (Nat.zero_le _) (fun j hj => absurd hj (Nat.not_lt_zero j)) s h
    obtain ⟨hp, g, d, tk, os⟩ := s
    wp_walk using wpAny_loadPart' hl
    exact ⟨plainId_quiet plain_contains_loop _, codeAny_builtin entry_contains_loop (by
      rw [Around.under_plainId plain_contains_loop _]
      exact first)⟩
  · obtain ⟨b, rfl, hq⟩ := hv
    exact wpAny_truthy_bool (wpAny_pure hq)
end
/-- what the own == of two instances answers, whatever has been made since -/
def spEqB (Rl : Addr → Addr → Hp → Bool → Prop) : Sp := fun vs H Q _ => ∃ a b r, vs = [.ref a, .ref b] ∧ Rl a b H r ∧ ∀ H', Ex H H' → Q (.bl r) H'
def rInO (C : Addr) (Rl : Addr → Addr → Hp → Bool → Prop) : R2 := fun x y H Q => ∃ (a : Addr) (dx : Addr) (fs : List (Str × V)) (p : Addr) (bs : List Addr) (e : Nat → Bool), x = .ref a ∧ y = .ref p ∧ H a = some (.ins C dx fs) ∧ H p = some (.lst (bs.map V.ref)) ∧
  (∀ i b, bs[i]? = some b → (∃ dy gs, H b = some (.ins C dy gs)) ∧ (∀ H', Ex H H' → Rl b a H' (e i)) ∧ (b = a → e i = true)) ∧ ∀ H' r, Ex H H' → (r = true ↔ ∃ j, j < bs.length ∧ e j = true) → Q (.bl r) H'
section
variable {X : Cx} {n : Nat} {CX : CXT} {f C : Addr} {fd : FuncData} {ps : List Str} {sp : Sp} {E : XK} {Rl : Addr → Addr → Hp → Bool → Prop}
theorem op_inO (F : FnOk X.prog X.w X.K X.mg X.base CX n f fd ps sp) (hsp : ∀ a b H r, Rl a b H r → ∀ Q : VK, (∀ H', Ex H H' → Q (.bl r) H') → sp [.ref a, .ref b] H Q E) (hr : Room (n + 1) X.A) (hb : Binds X.K fd ps []) (hx : Passes CX X E) (O : OwnE X.K C f)
    (ty : ∀ {H : Hp} {a dx : Addr} {fs : List (Str × V)}, H a = some (.ins C dx fs) → TyX X.K H (.ref a) (.ref C)) (nf : PySem.W.notFirst X.K C (.ref C) = true) : OpR X (compareOp .In) (rInO C Rl) := by
  intro pins s σ H x y v u Q I rx ry h
  obtain ⟨a, dx, fs, p, bs, e, rfl, rfl, ha, hp, hbs, q⟩ := h
  obtain rfl : v = Value.ref a := rx
  obtain rfl : u = Value.ref p := ry
  have sb : Sub X n X.A.in1 := Sub.in1 (X := X) (A := X.A) ⟨hr, rfl⟩
  refine in_own (N := bs.length) (e := e) (I := fun i s' => ∃ H', Inv X pins σ H' s' ∧ Ex H H') (fun i s' h => ?_) (fun i s' b h hb => ?_) ⟨H, I, Ex.refl⟩
  · obtain ⟨H1, I1, e1⟩ := h
    obtain ⟨z, its, m, rv, hl⟩ := (show ObjOk X.prog X.w H1 s'.heap p (.lst (bs.map V.ref)) from I1.hok p _ (e1 _ _ hp))
    have len : its.toArray.size = bs.length := by rw [List.size_toArray, ← rv.length, List.length_map]
    refine ⟨its.toArray, m, hl, len, fun hi => ?_⟩
    have hi2 : i < bs.length := by omega
    obtain ⟨u, hu, ru⟩ := rv.get (show (bs.map V.ref)[i]? = some (.ref bs[i]) from by rw [List.getElem?_map, List.getElem?_eq_getElem hi2]; rfl)
    obtain rfl : u = Value.ref bs[i] := ru
    have en : its.toArray[i] = Value.ref bs[i] := by
      have : its[i]? = some its.toArray[i] := by
        have : i < its.length := by simpa using hi
        rw [List.getElem?_eq_getElem this] <;> simp
      rw [this] at hu
      exact Option.some.inj hu
    rw [en]
    obtain ⟨⟨dy, gs, hy⟩, hR, hself⟩ := hbs i bs[i] (List.getElem?_eq_getElem hi2)
    by_cases hab : bs[i] = a
    · rw [hab, hself hab]
      exact SeqAt.EqAt.same (A := X.A.in1) (s := s') (.ref a) X.prog X.w X.xe _ ⟨rfl, H1, I1, e1⟩
    · refine GQ.eqBool_refG hab ?_
      refine wpAny_mono (rc_own (sb := sb) (x := .ref bs[i]) (y := .ref a) (Q := fun v H' => v = .bl (e i) ∧ Ex H1 H') F hb hx O I1 rfl rfl ⟨bs[i], dy, gs, _, rfl, e1 _ _ hy, ty (e1 _ _ ha), nf, hsp _ _ _ _ (hR H1 e1) _ fun H' e' => ⟨rfl, e'⟩⟩) (fun r s2 z => ?_) fun _ _ z => z
      obtain ⟨v, H2, I2, rv2, rfl, e2⟩ := z
      exact ⟨e i, rv2, rfl, H2, I2, e1.trans e2⟩
  · obtain ⟨H1, I1, e1⟩ := h
    exact ⟨.bl b, H1, I1, rfl, q H1 b e1 hb⟩
end
end Z

set_option Elab.async false
set_option linter.all false
set_option maxRecDepth 100000
namespace Z
open PySem L2
/-! set of a tuple of ints -/
section
open PySem.Spec PyProof.Rows
variable {P : Program} {w : World} {A : Around}
set_option maxHeartbeats 4000000 in
theorem set_callT {E : Value → Shared → Prop} {s : Shared} {l : Addr} {its : Array Value} {ns : List Int} {Q : Value → Shared → Prop}
    (calm : A.handled = none) (hl : s.heap.IsTuple l its) (hi : IntsAre its.toList ns) (room : its.size + 1 < scanBound)
    (h : ∀ (h' : Heap) (tk : Nat) (S : Int → Bool) (m : Nat), SetR w h' s.heap.objs.size S m → m ≤ ns.length → (∀ x, S x = true ↔ x ∈ ns) → (∀ b o, s.heap.get? b = some o → h'.get? b = some o) → Q (.ref s.heap.objs.size) { s with heap := h', toks := tk }) :
    wpAny (model P w) A (call (.type "set") [.ref l]) Q E s := by
  obtain ⟨c, tl, cm⟩ := F.called_set.mro
  have c1 := F.called_set.made
  have c2 := F.called_set.sub
  refine wpAny_call (codeAny_of_tree ?_)
  show wpAny _ _ (callAny (.type "set") _) _ _ _
  refine wpAny_pure ⟨Code.quiet_builtin _ (by decide +kernel), codeAny_builtin F.entry_type_call ?_⟩
  rw [PySem.Around.under_plain (weight_type_call_type "set" [.ref l] []) rfl]
  have c3 := F.called_set.notType
  have c4 := F.called_set.canCreate
  have c5 := PySem.F.typeCall_set_1 (.ref l)
  repeat (any_goals (first | assumption | wp_step))
  generalize eO : (!w.params.followText "set-order") = led
  refine codeAny_mono (set_new1 (.ref l) (E := E) (Q := fun v s1 => v = .ref s.heap.objs.size ∧ s1 = { s with heap := s.heap.push { cls := .type "set", dict := none, data := .set #[] 0 (.fresh 0 0 led) } }) (by rw [eO]; exact ⟨rfl, rfl⟩)) fun r s1 hr => ?_
  cases r with
  | error e => exact hr
  | ok fl =>
    cases fl with
    | ret v =>
      obtain ⟨rfl, rfl⟩ := hr
      have hO : (s.heap.push { cls := .type "set", dict := none, data := .set #[] 0 (.fresh 0 0 led) }).get? s.heap.objs.size = some { cls := .type "set", dict := none, data := .set #[] 0 (.fresh 0 0 led) } := Heap.get?_push_size _ rfl
      have hT : Shared.TypeIs { s with heap := s.heap.push { cls := .type "set", dict := none, data := .set #[] 0 (.fresh 0 0 led) } } (.ref s.heap.objs.size) "set" := ⟨_, hO, rfl⟩
      have c6 := F.called_set.init.lookup
      have c7 := F.called_set.init.bind (.ref s.heap.objs.size)
      have hR0 : SetR w (s.heap.push { cls := .type "set", dict := none, data := .set #[] 0 (.fresh 0 0 led) }) s.heap.objs.size (fun _ => false) 0 := by
        rw [← eO]
        exact setR_fresh w
      repeat (any_goals (first | assumption | wp_step))
      refine codeAny_mono (codeAny_call_builtin (R := wants (fun r s2 => r = .none ∧ ∃ h' tk S m, s2 = { s with heap := h', toks := tk } ∧ SetR w h' s.heap.objs.size S m ∧ m ≤ ns.length ∧ (∀ x, S x = true ↔ x ∈ ns) ∧ (∀ b o, s.heap.get? b = some o → h'.get? b = some o)) E)
        F.called_set.init.plain F.entry_set_init (PySem.check_set_init_1 hT ?_)) fun r2 s2 hr2 => ?_
      · obtain ⟨⟨oc, od, oo, os⟩, g1, g2, nl, g3⟩ := hl
        simp only at g2 g3
        subst g2
        subst g3
        have g4 : (s.heap.push { cls := .type "set", dict := none, data := .set #[] 0 (.fresh 0 0 led) }).get? l = some { cls := .type "tuple", dict := od, data := .seq its nl, slots := os } := Heap.get?_push_of_some _ g1
        have n1 := PySem.F.sub_tuple_set
        have n2 := PySem.F.sub_tuple_frozenset
        have n3 : (Value.type "tuple" == Value.type "dict") = false := by decide
        have g5 : (s.heap.push { cls := .type "set", dict := none, data := .set #[] 0 (.fresh 0 0 led) }).IsTuple l its := ⟨_, g4, rfl, nl, rfl⟩
        unfold Builtin.«set.__init__» noKeywords Builtin.Frozenset.updateFrom
        generalize hPI : pyIter = PI
        wp_walk
        subst hPI
        refine wpAny_pyIter_tuple g5 ?_
        refine wpAny_bind (wpAny_runValue ?_)
        have lt : l < s.heap.objs.size := Heap.lt_size g1
        have calm3 : A.in1.in1.in1.handled = none := by simp [calm]
        have ne1 : l ≠ (s.heap.push { cls := .type "set", dict := none, data := .set #[] 0 (.fresh 0 0 led) }).objs.size := by
          rw [Heap.size_push]
          exact Nat.ne_of_lt (Nat.lt_succ_of_lt lt)
        have ne2 : s.heap.objs.size ∉ [(s.heap.push { cls := .type "set", dict := none, data := .set #[] 0 (.fresh 0 0 led) }).objs.size, l] := by
          rw [Heap.size_push]
          simp only [List.mem_cons, List.mem_singleton, List.not_mem_nil, or_false, not_or]
          exact ⟨Nat.ne_of_lt (Nat.lt_succ_self _), Nat.ne_of_gt lt⟩
        refine set_upd ((Walks.tuple calm3 _ l ne1 its).toS) s.heap.objs.size ne2 ns (by rw [← hi.length, Array.length_toList]) (fun i v hv => PyProof.Rows.IntsAre.int_at hi i v (by rw [Array.getElem?_toList]; exact hv)) room (its.size - 0) 0 0 _ _ (by omega) (Nat.zero_le _)
          ⟨⟨_, Heap.get?_push_size _ rfl, rfl, rfl⟩, g5.push _⟩ (hR0.at fun o e => Heap.get?_push_of_some _ e) (Nat.le_refl _) (fun x => by simp) fun s' S' m' mv hS hm hx => ?_
        obtain ⟨h', g', d', tk', os'⟩ := s'
        obtain rfl : g' = s.gens := mv.gens
        obtain rfl : d' = s.drawn := mv.drawn
        obtain rfl : os' = s.os := mv.os
        refine wpAny_pure (wpAny_pure ⟨rfl, h', tk', S', m', rfl, hS, by rw [← hi.length, Array.length_toList]; exact hm, hx, fun b o e => ?_⟩)
        have b1 := Heap.lt_size e
        refine mv.heap b o ?_ (Heap.get?_push_of_some _ (Heap.get?_push_of_some _ e))
        rw [Heap.size_push]
        simp only [List.mem_cons, List.mem_singleton, List.not_mem_nil, or_false, not_or]
        exact ⟨Nat.ne_of_lt b1, Nat.ne_of_lt (Nat.lt_succ_of_lt b1)⟩
      · cases r2 with
        | error e => exact hr2
        | ok fl2 =>
          cases fl2 with
          | ret r =>
            obtain ⟨rfl, h', tk, S, m, rfl, q1, q2, q3, q4⟩ := hr2
            repeat (any_goals (first | assumption | wp_step))
            exact h _ _ _ _ q1 q2 q3 q4
          | _ => exact hr2.elim
    | _ => exact hr.elim
end
def rSetT (w : World) (K : PySem.W.Frag) : List V → Hp → VK → Prop := fun xs H Q => ∃ (a : Addr) (ns : List Int), xs = [V.ref a] ∧ SqT K H a (ns.map V.int) ∧ ns.length + 1 < scanBound ∧ ∀ p S m, H p = none → m ≤ ns.length → (∀ x, S x = true ↔ x ∈ ns) → Q (.ref p) (upd H p (SetO w p S m))
theorem cr_setT {X : Cx} (hc : X.calm = true) : CallR X (.type "set") (rSetT X.w X.K) := by
  intro pins s σ H xs us Q I r h
  obtain ⟨a, ns, rfl, ha, room, q⟩ := h
  obtain ⟨its, rv, hl, _⟩ := I.tuple ha
  rw [Vals.ref1 r]
  have hi : PyProof.Rows.IntsAre its ns := Vals.ints rv
  exact set_callT (I.ok.hd hc) hl hi (by rw [List.size_toArray, hi.length]; exact room) fun h' tk S m hS hm hx keep => ⟨.ref _, _, I.laid (t' := tk) keep (Nat.le_refl _) (setO_new hS), rfl, q _ S m (I.hok.fresh (Nat.le_refl _)) hm hx⟩
theorem s_setOfT {w : World} {K : PySem.W.Frag} {H : Hp} {Q : VK} {a : Addr} {ns : List Int} (ha : SqT K H a (ns.map V.int)) (room : ns.length + 1 < scanBound) (k : ∀ p S m H', H p = none → Ex H H' → H' p = some (SetO w p S m) → m ≤ ns.length → (∀ x, S x = true ↔ x ∈ ns) → Q (.ref p) H') : rSetT w K [.ref a] H Q :=
  ⟨a, ns, rfl, ha, room, fun p S m hp h1 h2 => k p S m _ hp (Ex.new hp) upd_same h1 h2⟩
end Z

set_option Elab.async false
set_option linter.all false
set_option maxRecDepth 100000
set_option maxHeartbeats 1000000
namespace Z
open PySem PySem.Builtin.SmallTypes
/-! zip(a, b, strict=True) of two lists of one length -/
section
variable {P : Program} {w : World} {A : Around} {E : Value → Shared → Prop} {s : Shared}
abbrev ZipS (h : Heap) (z pI pO : Addr) (own : Value) : Prop := h.get? z = some { cls := .type "zip", dict := none, data := .fields #[own, .bool false, .bool true, .ref pI, .ref pO], slots := #[] }
theorem drawS_item {j l : Addr} {i : Nat} {xs : Array Value} {x : Value} {Q : Option Value → Shared → Prop} (hj : s.heap.IsListIter j l i) (hl : s.heap.IsList l xs) (hx : xs[i]? = some x)
    (k : ∀ h', h'.IsListIter j l (i + 1) → Heap.SameBut j s.heap h' → Q (some x) { s with heap := h' }) : wpAny (model P w) A (nextOrEnd (.ref j)) Q E s := by
  unfold nextOrEnd
  exact wpAny_bind (wpAny_attempt (wpAny_nextOf_list_item hj hl hx fun h' a b => wpAny_pure (k h' a b)))
theorem drawS_end {j l : Addr} {i : Nat} {xs : Array Value} {Q : Option Value → Shared → Prop} (calm : A.handled = none) (hj : s.heap.IsListIter j l i) (hl : s.heap.IsList l xs) (hx : xs[i]? = none)
    (k : ∀ h', Heap.ExtBut j s.heap h' → Q none { s with heap := h' }) : wpAny (model P w) A (nextOrEnd (.ref j)) Q E s := by
  unfold nextOrEnd
  refine wpAny_bind (wpAny_attempt (wpAny_nextOf_list_end calm hj hl hx fun h' e a he => ?_))
  obtain ⟨o, ho, hc⟩ := he
  refine wpAny_bind (wpAny_isInstance (T := "StopIteration") (b := true) ⟨o, ho, hc⟩ isSubtype_stop ?_)
  rw [if_pos rfl]
  exact wpAny_pure (k h' a)
theorem zipS_item {z pI pO j1 j2 l1 l2 : Addr} {i : Nat} {xs ys : Array Value} {x y c d : Value} {Q : Value → Shared → Prop} (D : ZipApart z pI pO j1 j2 l1 l2)
    (hz : ZipS s.heap z pI pO .none) (hI : IsPair s.heap pI (.ref j1) (.ref j2)) (hO : IsPair s.heap pO c d)
    (g1 : s.heap.IsListIter j1 l1 i) (g2 : s.heap.IsListIter j2 l2 i) (m1 : s.heap.IsList l1 xs) (m2 : s.heap.IsList l2 ys) (hx : xs[i]? = some x) (hy : ys[i]? = some y)
    (k : ∀ h', ZipS h' z pI pO (rawInt s.heap.objs.size) → IsPair h' pO x y → h'.IsListIter j1 l1 (i + 1) → h'.IsListIter j2 l2 (i + 1) → IsPair h' s.heap.objs.size x y → h'.objs.size = s.heap.objs.size + 1 →
      (∀ a o, a ≠ z → a ≠ pO → a ≠ j1 → a ≠ j2 → s.heap.get? a = some o → h'.get? a = some o) → Q (.ref s.heap.objs.size) { s with heap := h' }) :
    wpAny (model P w) A (Builtin.«zip.__next__» ⟨[.ref z], []⟩) (fun fin s' => ∃ v, fin = .done (.ret v) ∧ Q v s') E s := by
  show wpAny _ _ (field (.ref z) 2 >>= fun f => _) _ _ _
  refine wpAny_bind (wpAny_field hz rfl (x := .bool true) rfl ?_)
  show wpAny _ _ (field (.ref z) 3 >>= fun f => _) _ _ _
  refine wpAny_bind (wpAny_field hz rfl (x := .ref pI) rfl (wpAny_bind (wpAny_seqItems hI rfl ?_)))
  show wpAny _ _ (ownedTupleIsFree (.ref z) >>= fun f => _) _ _ _
  unfold ownedTupleIsFree
  refine wpAny_bind (wpAny_bind (wpAny_field hz rfl (x := .none) rfl (wpAny_pure ?_)))
  simp only [if_true]
  refine wpAny_bind (wpAny_rule (wpAny_bind (wpAny_field hz rfl (x := .ref pO) rfl ?_)))
  refine wpAny_bind (wpAny_setField_rec hz (by simp) fun H1 z1 b1 => ?_)
  replace z1 : ZipS H1 z pI pO .ellipsis := z1
  refine wpAny_bind ?_
  simp only [List.zipIdx_cons, List.zipIdx_nil, List.forIn_cons, List.forIn_nil]
  refine wpAny_bind (wpAny_bind (wpAny_onRaise ?_))
  show wpAny _ _ (nextOrEnd (.ref j1)) _ _ _
  refine drawS_item (g1.extBut b1.extBut D.i1z) (m1.extBut b1.extBut D.l1z) hx fun H2 n1 b2 => ?_
  have o2 : IsPair H2 pO c d := b2.extBut _ _ D.TOi1 (b1.extBut _ _ D.TOz hO)
  refine wpAny_bind (wpAny_seqItems o2 rfl (wpAny_bind (wpAny_updateSeq_pair o2 fun H3 o3 b3 => ?_)))
  replace o3 : IsPair H3 pO x d := o3
  refine wpAny_bind (wpAny_letGo (wpAny_pure ?_))
  refine wpAny_bind (wpAny_bind (wpAny_onRaise ?_))
  show wpAny _ _ (nextOrEnd (.ref j2)) _ _ _
  refine drawS_item (((g2.extBut b1.extBut D.i2z).extBut b2.extBut D.i12.symm).extBut b3.extBut D.TOi2.symm) (((m2.extBut b1.extBut D.l2z).extBut b2.extBut D.l2i1).extBut b3.extBut D.l2TO) hy fun H4 n2 b4 => ?_
  have o4 : IsPair H4 pO x d := b4.extBut _ _ D.TOi2 o3
  refine wpAny_bind (wpAny_seqItems o4 rfl (wpAny_bind (wpAny_updateSeq_pair o4 fun H5 o5 b5 => ?_)))
  replace o5 : IsPair H5 pO x y := o5
  refine wpAny_bind (wpAny_letGo (wpAny_pure (wpAny_pure ?_)))
  refine wpAny_bind (wpAny_seqItems o5 rfl (wpAny_bind (wpAny_newTuple ?_)))
  have sz5 : H5.objs.size = s.heap.objs.size := by rw [b5.1, b4.1, b3.1, b2.1, b1.1]
  have z5 : ZipS H5 z pI pO .ellipsis := b5.extBut _ _ D.TOz.symm (b4.extBut _ _ D.i2z.symm (b3.extBut _ _ D.TOz.symm (b2.extBut _ _ D.i1z.symm z1)))
  have kp : ∀ a o, a ≠ z → a ≠ pO → a ≠ j1 → a ≠ j2 → s.heap.get? a = some o → H5.get? a = some o := fun a o q1 q2 q3 q4 e => b5.extBut _ _ q2 (b4.extBut _ _ q4 (b3.extBut _ _ q2 (b2.extBut _ _ q3 (b1.extBut _ _ q1 e))))
  have n1' : H5.IsListIter j1 l1 (i + 1) := ((n1.extBut b3.extBut D.TOi1.symm).extBut b4.extBut D.i12).extBut b5.extBut D.TOi1.symm
  have n2' : H5.IsListIter j2 l2 (i + 1) := n2.extBut b5.extBut D.TOi2.symm
  have zl : z < H5.objs.size := Heap.lt_size z5
  show wpAny _ _ (ownedTupleHandOut (.ref z) (.ref H5.objs.size) >>= fun f => _) _ _ _
  unfold ownedTupleHandOut
  have z6 : ZipS (H5.push { cls := .type "tuple", data := .seq #[x, y] }) z pI pO .ellipsis := Heap.get?_push_of_some _ z5
  refine wpAny_bind (wpAny_bind (wpAny_setField_rec z6 (by simp) fun H7 z7 b7 => ?_))
  replace z7 : ZipS H7 z pI pO (rawInt H5.objs.size) := z7
  refine wpAny_setField_rec z7 (by simp) fun H8 z8 b8 => ?_
  replace z8 : ZipS H8 z pI pO (rawInt H5.objs.size) := z8
  have up : ∀ a o, a ≠ z → H5.get? a = some o → H8.get? a = some o := fun a o q e => b8.extBut _ _ q (b7.extBut _ _ q (Heap.get?_push_of_some _ e))
  have t8 : IsPair H8 H5.objs.size x y := b8.extBut _ _ (Nat.ne_of_gt zl) (b7.extBut _ _ (Nat.ne_of_gt zl) (Heap.get?_push_size _ rfl))
  have sz8 : H8.objs.size = H5.objs.size + 1 := by rw [b8.1, b7.1, Heap.size_push]
  rw [sz5] at z8 t8 sz8
  refine wpAny_pure ⟨_, rfl, ?_⟩
  show Q (.ref H5.objs.size) _
  rw [sz5]
  exact k H8 z8 (up _ _ D.TOz o5) (n1'.at fun o e => up _ o D.i1z e) (n2'.at fun o e => up _ o D.i2z e) t8 sz8 fun a o q1 q2 q3 q4 e => up a o q1 (kp a o q1 q2 q3 q4 e)
theorem stop_all {Q : α → Shared → Prop} (calm : A.handled = none) (k : ∀ h' e, (∀ a o, s.heap.get? a = some o → h'.get? a = some o) → (∃ o, h'.get? e = some o ∧ o.cls = .type "StopIteration") → E (.ref e) { s with heap := h' }) :
    wpAny (model P w) A (stopIteration : Sem α) Q E s := by
  unfold stopIteration
  refine wpAny_bind ?_
  simp only [newExc, newTuple]
  refine wpAny_bind (wpAny_newObj_type ?_ (by size_fits))
  refine wpAny_bind (m := firstArgMember _ _) (wpAny_of_eq (a := Value.none) (by first | rfl | (simp only [firstArgMember]; rfl)) ?_)
  refine wpAny_newObj_type ?_ (by size_fits)
  simp only [raiseNew]
  refine wpAny_bind (wpAny_handled ?_)
  rw [calm]
  exact wpAny_bind (wpAny_pure (wpAny_throw (k _ _ (fun a o e => Heap.get?_push_of_some _ (Heap.get?_push_of_some _ e)) ⟨_, Heap.get?_push_size _ rfl, rfl⟩)))
theorem strict_go {m : Sem PySem.Fin} {b : Value} {Q : PySem.Fin → Shared → Prop} (hm : ∃ (bad : Value × Nat → Option Value → Sem (ForInStep PUnit)) (r : String), m = (forIn [(b, 1)] PUnit.unit (fun p _ => nextOrEnd p.1 >>= fun x => if x.isSome = true then bad p x else pure (ForInStep.yield PUnit.unit)) >>= fun _ => rule r >>= fun _ => stopIteration))
    (h : wpAny (model P w) A (nextOrEnd b) (fun x s' => x = none ∧ wpAny (model P w) A (stopIteration : Sem PySem.Fin) Q E s') E s) : wpAny (model P w) A m Q E s := by
  obtain ⟨bad, r, rfl⟩ := hm
  simp only [List.forIn_cons, List.forIn_nil]
  refine wpAny_bind (wpAny_bind (wpAny_bind (wpAny_mono h (fun x s' hx => ?_) fun _ _ z => z)))
  obtain ⟨rfl, hx⟩ := hx
  exact wpAny_pure (wpAny_pure (wpAny_bind (wpAny_rule hx)))
theorem zipS_end {z pI pO j1 j2 l1 l2 : Addr} {i : Nat} {xs ys : Array Value} {c d : Value} {Q : Fin → Shared → Prop} (calm : A.handled = none) (D : ZipApart z pI pO j1 j2 l1 l2)
    (hz : ZipS s.heap z pI pO .none) (hI : IsPair s.heap pI (.ref j1) (.ref j2)) (hO : IsPair s.heap pO c d)
    (g1 : s.heap.IsListIter j1 l1 i) (g2 : s.heap.IsListIter j2 l2 i) (m1 : s.heap.IsList l1 xs) (m2 : s.heap.IsList l2 ys) (hx : xs[i]? = none) (hy : ys[i]? = none)
    (k : ∀ h' e, (∀ a o, a ≠ z → a ≠ j1 → a ≠ j2 → s.heap.get? a = some o → h'.get? a = some o) → (∃ o, h'.get? e = some o ∧ o.cls = .type "StopIteration") → E (.ref e) { s with heap := h' }) :
    wpAny (model P w) A (Builtin.«zip.__next__» ⟨[.ref z], []⟩) Q E s := by
  show wpAny _ _ (field (.ref z) 2 >>= fun f => _) _ _ _
  refine wpAny_bind (wpAny_field hz rfl (x := .bool true) rfl ?_)
  show wpAny _ _ (field (.ref z) 3 >>= fun f => _) _ _ _
  refine wpAny_bind (wpAny_field hz rfl (x := .ref pI) rfl (wpAny_bind (wpAny_seqItems hI rfl ?_)))
  show wpAny _ _ (ownedTupleIsFree (.ref z) >>= fun f => _) _ _ _
  unfold ownedTupleIsFree
  refine wpAny_bind (wpAny_bind (wpAny_field hz rfl (x := .none) rfl (wpAny_pure ?_)))
  simp only [if_true]
  refine wpAny_bind (wpAny_rule (wpAny_bind (wpAny_field hz rfl (x := .ref pO) rfl ?_)))
  refine wpAny_bind (wpAny_setField_rec hz (by simp) fun H1 z1 b1 => ?_)
  replace z1 : ZipS H1 z pI pO .ellipsis := z1
  refine wpAny_bind ?_
  simp only [List.zipIdx_cons, List.zipIdx_nil, List.forIn_cons, List.forIn_nil]
  refine wpAny_bind (wpAny_bind (wpAny_onRaise ?_))
  show wpAny _ _ (nextOrEnd (.ref j1)) _ _ _
  refine drawS_end calm (g1.extBut b1.extBut D.i1z) (m1.extBut b1.extBut D.l1z) hx fun H2 b2 => ?_
  have z2 : ZipS H2 z pI pO .ellipsis := b2 _ _ D.i1z.symm z1
  refine wpAny_bind (wpAny_setField_rec z2 (by simp) fun H3 z3 b3 => ?_)
  refine wpAny_bind ?_
  refine strict_go (b := .ref j2) ⟨_, _, rfl⟩ ?_
  refine drawS_end calm (((g2.extBut b1.extBut D.i2z).extBut b2 D.i12.symm).extBut b3.extBut D.i2z) (((m2.extBut b1.extBut D.l2z).extBut b2 D.l2i1).extBut b3.extBut D.l2z) hy fun H4 b4 => ⟨rfl, ?_⟩
  exact stop_all calm fun h' e kp he => k h' e (fun a o q1 q2 q3 x => kp a o (b4 _ _ q3 (b3.extBut _ _ q1 (b2 _ _ q2 (b1.extBut _ _ q1 x))))) he
theorem nextS_item {z pI pO j1 j2 l1 l2 : Addr} {i : Nat} {xs ys : Array Value} {x y c d : Value} {Q : Option Value → Shared → Prop} (D : ZipApart z pI pO j1 j2 l1 l2)
    (hz : ZipS s.heap z pI pO .none) (hI : IsPair s.heap pI (.ref j1) (.ref j2)) (hO : IsPair s.heap pO c d)
    (g1 : s.heap.IsListIter j1 l1 i) (g2 : s.heap.IsListIter j2 l2 i) (m1 : s.heap.IsList l1 xs) (m2 : s.heap.IsList l2 ys) (hx : xs[i]? = some x) (hy : ys[i]? = some y)
    (k : ∀ h', ZipS h' z pI pO (rawInt s.heap.objs.size) → IsPair h' pO x y → h'.IsListIter j1 l1 (i + 1) → h'.IsListIter j2 l2 (i + 1) → IsPair h' s.heap.objs.size x y → h'.objs.size = s.heap.objs.size + 1 →
      (∀ a o, a ≠ z → a ≠ pO → a ≠ j1 → a ≠ j2 → s.heap.get? a = some o → h'.get? a = some o) → Q (some (.ref s.heap.objs.size)) { s with heap := h' }) :
    wpAny (model P w) A (pyNext (.ref z)) Q E s := by
  have tz : s.TypeIs (.ref z) "zip" := ⟨_, hz, rfl⟩
  unfold pyNext
  refine wpAny_bind (wpAny_attempt (wpAny_callSpecial?_slot (name := Str.ofString "__next__") tz F.slot_zip_next (wpAny_call_entry F.slot_zip_next tz F.entry_zip_next ?_ (F.args_zip_next_1 _))))
  exact zipS_item D hz hI hO g1 g2 m1 m2 hx hy fun h' a1 a2 a3 a4 a5 a6 a7 => wpAny_pure (k h' a1 a2 a3 a4 a5 a6 a7)
theorem nextS_end {z pI pO j1 j2 l1 l2 : Addr} {i : Nat} {xs ys : Array Value} {c d : Value} {Q : Option Value → Shared → Prop} (calm : A.handled = none) (D : ZipApart z pI pO j1 j2 l1 l2)
    (hz : ZipS s.heap z pI pO .none) (hI : IsPair s.heap pI (.ref j1) (.ref j2)) (hO : IsPair s.heap pO c d)
    (g1 : s.heap.IsListIter j1 l1 i) (g2 : s.heap.IsListIter j2 l2 i) (m1 : s.heap.IsList l1 xs) (m2 : s.heap.IsList l2 ys) (hx : xs[i]? = none) (hy : ys[i]? = none)
    (k : ∀ h', (∀ a o, a ≠ z → a ≠ j1 → a ≠ j2 → s.heap.get? a = some o → h'.get? a = some o) → Q none { s with heap := h' }) : wpAny (model P w) A (pyNext (.ref z)) Q E s := by
  have tz : s.TypeIs (.ref z) "zip" := ⟨_, hz, rfl⟩
  unfold pyNext
  refine wpAny_bind (wpAny_attempt (wpAny_callSpecial?_slot (name := Str.ofString "__next__") tz F.slot_zip_next (wpAny_call_entry F.slot_zip_next tz F.entry_zip_next ?_ (F.args_zip_next_1 _))))
  refine zipS_end calm D hz hI hO g1 g2 m1 m2 hx hy fun h' e kp he => ?_
  obtain ⟨o, ho, hc⟩ := he
  exact wpAny_bind (wpAny_isInstance (T := "StopIteration") (b := true) ⟨o, ho, hc⟩ isSubtype_stop (wpAny_pure (k _ kp)))
theorem iterS {z pI pO : Addr} {own : Value} {Q : Value → Shared → Prop} (hz : ZipS s.heap z pI pO own) (k : Q (.ref z) s) : wpAny (model P w) A (pyIter (.ref z)) Q E s := by
  have tz : s.TypeIs (.ref z) "zip" := ⟨_, hz, rfl⟩
  refine wpAny_pyIter_slot tz F.slot_zip_iter (wpAny_call_entry F.slot_zip_iter tz F.entry_zip_iter ?_ (F.args_zip_iter_1 _))
  exact (show wpAny _ _ (ret (.ref z)) _ _ s from wpAny_pure ⟨_, rfl, "zip", _, tz, F.slot_zip_next.lookup, k⟩)
theorem letS_if {α : Type} {c : Bool} {a b : Sem α} {Q : α → Shared → Prop} (hc : c = true) (h : wpAny (model P w) A a Q E s) : wpAny (model P w) A (if c = true then a else b) Q E s := by
  rw [if_pos hc]
  exact h
theorem letS {es : List Expr} {n : Nat} {pos : Pos} {z pI pO t : Addr} {Q : Unit → Shared → Prop} (hz : ZipS s.heap z pI pO (rawInt t)) (k : ∀ h', ZipS h' z pI pO .none → Heap.SameBut z s.heap h' → Q () { s with heap := h' }) :
    wpAny (model P w) A (letOwnedTupleGo (.Tuple es n pos) (.ref z) (.ref t)) Q E s := by
  unfold letOwnedTupleGo
  refine wpAny_bind (wpAny_load hz (letS_if (by simp) ?_))
  exact wpAny_bind (wpAny_rule (wpAny_setField_rec hz (by simp) fun h' z' b => k h' z' b))
/-! it is made -/
theorem tcS (a b v : Value) : checkTypeCall "zip" ⟨[a, b], [(Str.ofString "strict", v)]⟩ = pure () := by kernel_rfl
theorem ncS (a b v : Value) : checkBuiltinCall "zip.__new__" ⟨[.type "zip", a, b], [(Str.ofString "strict", v)]⟩ = pure () := by kernel_rfl
theorem oiS (o a b v : Value) : argsOk "object.__init__" ⟨[o, a, b], [(Str.ofString "strict", v)]⟩ := by
  unfold argsOk
  kernel_rfl
theorem newS (l1 l2 : Addr) (xs ys : Array Value) :
    Meets (Builtin.«zip.__new__» ⟨[.type "zip", .ref l1, .ref l2], [(Str.ofString "strict", .bool true)]⟩) (fun _ R s => s.heap.IsList l1 xs ∧ s.heap.IsList l2 ys ∧
      R (.ok (.ret (.ref (zipH4 s.heap l1 l2).objs.size))) { s with heap := (zipH4 s.heap l1 l2).push { cls := .type "zip", data := .fields #[.none, .bool false, .bool true, .ref (zipH2 s.heap l1 l2).objs.size, .ref (zipH3 s.heap l1 l2).objs.size] } }) :=
  .of_wp fun prog w A R s h => by
    obtain ⟨hp, g, d, tk, os⟩ := s
    obtain ⟨m1, m2, h⟩ := h
    have sz := sub_zip
    have M1 : Heap.IsList (Shared.heap ⟨hp, g, d, tk, os⟩) l1 xs := m1
    have M2 : Heap.IsList (Shared.heap ⟨hp.push { cls := .type "list_iterator", data := .fields #[.ref l1, .int 0 0] }, g, d, tk, os⟩) l2 ys := Heap.IsList.push m2 _
    wp_walk using wpAny_pyIter_list M1, wpAny_pyIter_list M2, wpAny_truthy_bool
    exact ⟨_, rfl, h⟩
theorem callS {l1 l2 : Addr} {xs ys : Array Value} {Q : Value → Shared → Prop} (m1 : s.heap.IsList l1 xs) (m2 : s.heap.IsList l2 ys)
    (k : ∀ h', ZipS h' (s.heap.objs.size + 4) (s.heap.objs.size + 2) (s.heap.objs.size + 3) .none → IsPair h' (s.heap.objs.size + 2) (.ref s.heap.objs.size) (.ref (s.heap.objs.size + 1)) → IsPair h' (s.heap.objs.size + 3) .none .none →
      h'.IsListIter s.heap.objs.size l1 0 → h'.IsListIter (s.heap.objs.size + 1) l2 0 → (∀ a o, s.heap.get? a = some o → h'.get? a = some o) → Q (.ref (s.heap.objs.size + 4)) { s with heap := h' }) :
    wpAny (model P w) A (call (.type "zip") [.ref l1, .ref l2] [(Str.ofString "strict", .bool true)]) Q E s := by
  refine callType_newKw F.called_zip (by decide) (tcS _ _ _) (ncS _ _ _) (fun o => oiS o _ _ _) F.entry_zip_new (newS l1 l2 xs ys) ⟨m1, m2, ?_⟩
  generalize eO : ({ cls := .type "zip", data := .fields #[.none, .bool false, .bool true, .ref (zipH2 s.heap l1 l2).objs.size, .ref (zipH3 s.heap l1 l2).objs.size] } : Obj) = O
  have q1 : (zipH1 s.heap l1).objs.size = s.heap.objs.size + 1 := Heap.size_push ..
  have q2 : (zipH2 s.heap l1 l2).objs.size = s.heap.objs.size + 2 := by rw [Heap.size_push, q1]
  have q3 : (zipH3 s.heap l1 l2).objs.size = s.heap.objs.size + 3 := by rw [Heap.size_push, q2]
  have q4 : (zipH4 s.heap l1 l2).objs.size = s.heap.objs.size + 4 := by rw [Heap.size_push, q3]
  have p5 : ((zipH4 s.heap l1 l2).push O).get? (zipH4 s.heap l1 l2).objs.size = some O := Heap.get?_push_size _ (by rw [← eO]; rfl)
  have p4 : ((zipH4 s.heap l1 l2).push O).get? (zipH3 s.heap l1 l2).objs.size = some _ := Heap.get?_push_of_some _ (Heap.get?_push_size _ rfl)
  have p3 : ((zipH4 s.heap l1 l2).push O).get? (zipH2 s.heap l1 l2).objs.size = some _ := Heap.get?_push_of_some _ (Heap.get?_push_of_some _ (Heap.get?_push_size _ rfl))
  have p2 : ((zipH4 s.heap l1 l2).push O).get? (zipH1 s.heap l1).objs.size = some _ := Heap.get?_push_of_some _ (Heap.get?_push_of_some _ (Heap.get?_push_of_some _ (Heap.get?_push_size _ rfl)))
  have p1 : ((zipH4 s.heap l1 l2).push O).get? s.heap.objs.size = some _ := Heap.get?_push_of_some _ (Heap.get?_push_of_some _ (Heap.get?_push_of_some _ (Heap.get?_push_of_some _ (Heap.get?_push_size _ rfl))))
  rw [q2, q3] at eO
  rw [← eO] at p5 p4 p3 p2 p1 ⊢
  show _ ∧ _
  rw [q4] at p5
  rw [q1, q2] at p3
  rw [q3] at p4
  rw [q1] at p2
  rw [q4]
  exact ⟨⟨_, p5, rfl⟩, k _ p5 p3 p4 ⟨_, p1, rfl, rfl⟩ ⟨_, p2, rfl, rfl⟩ fun a o x => Heap.get?_push_of_some _ (Heap.get?_push_of_some _ (Heap.get?_push_of_some _ (Heap.get?_push_of_some _ (Heap.get?_push_of_some _ x))))⟩
end
end Z
namespace Z
open PySem L2 PyProof.Rows
/-- both lists as they stand at each turn; they end together -/
def ItzS (K : PySem.W.Frag) (a b : Addr) : It :=
  ⟨(Itz K a b).go, (Itz K a b).yld, fun i H => ∃ xs ys : List V, SqL K H a xs ∧ SqL K H b ys ∧ xs.length ≤ i ∧ ys.length ≤ i⟩
theorem walk_zipS {K : PySem.W.Frag} {a b : Addr} {xs ys : List V} (hn : ys.length = xs.length) : Walk (ItzS K a b) xs.length (fun H => SqL K H a xs ∧ SqL K H b ys) (YPair (fun i => xs[i]?) (fun i => ys[i]?)) := by
  have W := walk_zip (K := K) (a := a) (b := b) (xs := xs) (ys := ys) (n := xs.length) (by omega)
  exact ⟨W.goes, fun H q => ⟨xs, ys, q.1, q.2, Nat.le_refl _, by omega⟩, W.yields⟩
theorem turn_zipS {P : Program} {w : World} {K : PySem.W.Frag} {es : List Expr} {n : Nat} {pos : Pos} {a b z pI pO j1 j2 : Addr} (D : ZipApart z pI pO j1 j2 a b) :
    Turn P w K (.Tuple es n pos) (ItzS K a b) [z, pI, pO, j1, j2] z (fun i h => ZipS h z pI pO .none ∧ IsPair h pI (.ref j1) (.ref j2) ∧ (∃ x y, IsPair h pO x y) ∧ h.IsListIter j1 a i ∧ h.IsListIter j2 b i) where
  mem := List.mem_cons_self
  obj := fun i h ⟨hz, hI, ⟨x, y, hO⟩, ⟨o1, u1, _, v1⟩, ⟨o2, u2, _, v2⟩⟩ c hc => by
    have hc : c = z ∨ c = pI ∨ c = pO ∨ c = j1 ∨ c = j2 := by simpa using hc
    rcases hc with rfl | rfl | rfl | rfl | rfl
    · exact ⟨_, hz, fun v q => nomatch q⟩
    · exact ⟨_, hI, fun v q => nomatch q⟩
    · exact ⟨_, hO, fun v q => nomatch q⟩
    · exact ⟨o1, u1, fun v q => by rw [v1] at q; cases q⟩
    · exact ⟨o2, u2, fun v q => by rw [v2] at q; cases q⟩
  keep := fun i h h' ⟨hz, hI, ⟨x, y, hO⟩, g1, g2⟩ k =>
    ⟨k z (by simp) _ hz, k pI (by simp) _ hI, ⟨x, y, k pO (by simp) _ hO⟩, g1.at (k j1 (by simp)), g2.at (k j2 (by simp))⟩
  item := by
    intro X eP ew eK _ i pins s σ H E I free st go
    subst eP ew eK
    obtain ⟨hz, hI, ⟨x0, y0, hO⟩, g1, g2⟩ := st
    obtain ⟨xs, ys, x, y, qa, qb, hx, hy⟩ := go
    obtain ⟨us, ru, p1, _⟩ := I.list qa
    obtain ⟨vs, rv, p2, _⟩ := I.list qb
    obtain ⟨u, hu, ux⟩ := ru.get hx
    obtain ⟨v, hv, vy⟩ := rv.get hy
    have zl : z < s.heap.objs.size := Heap.lt_size hz
    refine nextS_item D hz hI hO g1 g2 p1.isList p2.isList (x := u) (y := v) (by simpa using hu) (by simpa using hv) fun h1 z1 o1 n1 n2 t1 _ kp => ?_
    refine ⟨_, rfl, letS (s := { s with heap := h1 }) z1 fun h2 z2 sb => ?_⟩
    have t2 : h2.get? s.heap.objs.size = some { cls := .type "tuple", data := .seq #[u, v] } := (sb.2 _ (Nat.ne_of_gt zl)).trans t1
    have okN : ObjOk X.prog X.w (upd H s.heap.objs.size (.tup [x, y])) h2 s.heap.objs.size (.tup [x, y]) := ⟨sz (by simp), [u, v], .cons ux (.cons vy .nil), ⟨_, t2, rfl, _, rfl⟩⟩
    have I1 : Inv X pins σ (upd H s.heap.objs.size (.tup [x, y])) { s with heap := h2 } := I.turnedNew (t' := s.toks) (ch := [z, pI, pO, j1, j2]) (fun c o hb q => by
      have hb : c ≠ z ∧ c ≠ pI ∧ c ≠ pO ∧ c ≠ j1 ∧ c ≠ j2 := by simpa using hb
      exact (sb.2 c hb.1).trans (kp c o hb.1 hb.2.2.1 hb.2.2.2.1 hb.2.2.2.2 q)) free (Nat.le_refl _) okN
    refine ⟨.ref s.heap.objs.size, _, I1, rfl, ⟨_, x, y, rfl, I.hok.fresh (Nat.le_refl _), rfl, fun l hl => by rw [I.list_inj hl qa]; exact hx, fun l hl => by rw [I.list_inj hl qb]; exact hy⟩,
      ⟨z2, (sb.2 _ D.TIz).trans (kp _ _ D.TIz D.TITO D.TIi1 D.TIi2 hI), ⟨u, v, (sb.2 _ D.TOz).trans o1⟩, n1.at fun o q => (sb.2 _ D.i1z).trans q, n2.at fun o q => (sb.2 _ D.i2z).trans q⟩, fun c hc => ?_⟩
    have lt : c < s.heap.objs.size := by
      have hc : c = z ∨ c = pI ∨ c = pO ∨ c = j1 ∨ c = j2 := by simpa using hc
      rcases hc with rfl | rfl | rfl | rfl | rfl
      · exact zl
      · exact Heap.lt_size hI
      · exact Heap.lt_size hO
      · exact let ⟨_, e, _⟩ := g1; Heap.lt_size e
      · exact let ⟨_, e, _⟩ := g2; Heap.lt_size e
    rw [upd_ne (Nat.ne_of_lt lt)]
    exact (free c hc).1
  done := by
    intro X eP ew eK calm i pins s σ H E I free st stop
    subst eP ew eK
    obtain ⟨hz, hI, ⟨x0, y0, hO⟩, g1, g2⟩ := st
    obtain ⟨xs, ys, qa, qb, l1, l2⟩ := stop
    obtain ⟨us, ru, p1, _⟩ := I.list qa
    obtain ⟨vs, rv, p2, _⟩ := I.list qb
    have n1 := ru.length
    have n2 := rv.length
    refine nextS_end (I.ok.hd calm) D hz hI hO g1 g2 p1.isList p2.isList (by simp; omega) (by simp; omega) fun h1 kp => ⟨rfl, I.turnedL (t' := s.toks) (ch := [z, pI, pO, j1, j2]) (fun c o hb q => ?_) free⟩
    have hb : c ≠ z ∧ c ≠ pI ∧ c ≠ pO ∧ c ≠ j1 ∧ c ≠ j2 := by simpa using hb
    exact kp c o hb.1 hb.2.2.2.1 hb.2.2.2.2 q
  self := fun A i s Q E st k => iterS st.1 k
def iZipS (K : PySem.W.Frag) (ta tk : TA) : TI := fun σ H R => ta σ H fun vs H1 => tk σ H1 fun zs H2 => ∃ a b xs ys, vs = [.ref a, .ref b] ∧ zs = [.bl true] ∧ SqL K H2 a xs ∧ SqL K H2 b ys ∧ R (ItzS K a b) H2
theorem callTyS {M : Model} {A : Around} {E : Value → Shared → Prop} {s : Shared} {env : Env} {pos : Pos} {T : String} {e : Expr} {es : List Expr} {kws : List Keyword} {Q : Value → Shared → Prop}
    (h : wpAny M A (spliced (backTo pos (starEach (e :: es) env))) (fun vs s1 => wpAny M A (evalAll ((backToKw pos (keywordEach kws env)).map (·.2))) (fun zs s2 => wpAny M A (call (.type T) vs (((backToKw pos (keywordEach kws env)).filterMap (·.1)).zip zs)) Q E s2) E s1) E s)
    (he : backTo pos (starEach (e :: es) env) = (false, eval e env) :: backTo pos (starEach es env) := by rfl) (hp : (backTo pos (starEach (e :: es) env)).any (·.1) = false := by rfl)
    (ha : (backToKw pos (keywordEach kws env)).all (·.1.isSome) = true := by rfl) (hk : (backToKw pos (keywordEach kws env)).any (·.1.isNone) = false := by rfl) :
    wpAny M A (callWith pos (.type T) [] (backTo pos (starEach (e :: es) env)) (backToKw pos (keywordEach kws env))) Q E s := by
  unfold callWith
  have z : wpAny M A (evalArgs (.type T) true (backTo pos (starEach (e :: es) env)) (backToKw pos (keywordEach kws env))) (fun r s1 => wpAny M A (call (.type T) ([] ++ r.pos) r.kw) Q E s1) E s := by
    rw [he] at h ⊢
    exact evalArgs_kwB ha h
  refine wpAny_bind (wpAny_holding (wpAny_mono z (fun r s1 h1 => wpAny_bind (wpAny_standAt ?_)) fun _ _ x => x))
  simp only [hp, hk, Bool.or_false]
  exact wpAny_bind (wpAny_pure (wpAny_bind (wpAny_mono h1 (fun v s2 h2 => wpAny_bind (wpAny_holding (wpAny_point (wpAny_pure h2)))) fun _ _ x => x)))
theorem pi_zipS {X : Cx} {e e2 : Expr} {kws : List Keyword} {ta tk : TA} {p pos tpos : Pos} {es : List Expr} {n : Nat} (hg : Gl X "zip") (hm : X.mg "zip" = none) (ha : PA X [e, e2] ta) (hk : PK X kws tk)
    (he : backTo pos (starEach [e, e2] X.env) = (false, eval e X.env) :: backTo pos (starEach [e2] X.env) := by rfl) (hp : (backTo pos (starEach [e, e2] X.env)).any (·.1) = false := by rfl)
    (hall : (backToKw pos (keywordEach kws X.env)).all (·.1.isSome) = true := by rfl) (hnone : (backToKw pos (keywordEach kws X.env)).any (·.1.isNone) = false := by rfl) (hks : (backToKw pos (keywordEach kws X.env)).filterMap (·.1) = [Str.ofString "strict"] := by rfl) :
    PI X (.Tuple es n tpos) (.Call (.Name "zip" p) [e, e2] kws pos) (iZipS X.K ta tk) := by
  refine ⟨fun pins s σ H R I h => ?_⟩
  refine wpAny_Call_Name_kw (ld_blt I hg hm PyProof.Rows.boot_zip ?_)
  refine callTyS (thn (ha.run pos pins s σ H _ I h) fun us s1 ⟨vs, H1, I1, r1, q1⟩ => thn (hk.run pos pins s1 σ H1 _ I1 q1) fun ws s2 ⟨zs, H2, I2, r2, a, b, xs, ys, e1, e2', qa, qb, k⟩ => ?_) he hp hall hnone
  subst e1 e2'
  rw [hks]
  cases r1 with
  | cons ra rr =>
    cases rr with
    | cons rb rr =>
      cases rr
      cases ra
      cases rb
      cases r2 with
      | cons rc rr =>
        cases rr
        cases rc
        obtain ⟨us, ru, p1, _⟩ := I2.list qa
        obtain ⟨vs, rv, p2, _⟩ := I2.list qb
        refine callS p1.isList p2.isList fun h1 hz hI hO g1 g2 kp => iterS hz ?_
        have I3 : Inv X pins σ H2 { s2 with heap := h1 } := I2.kept (t' := s2.toks) kp
        refine ⟨s2.heap.objs.size + 4, [s2.heap.objs.size + 4, s2.heap.objs.size + 2, s2.heap.objs.size + 3, s2.heap.objs.size, s2.heap.objs.size + 1], _, _, H2, rfl, I3, turn_zipS (PySem.W.ktu_apart s2.heap.objs.size a b p1.lt p2.lt), ⟨hz, hI, ⟨_, _, hO⟩, g1, g2⟩, fun c hc => ?_, k⟩
        have le : s2.heap.objs.size ≤ c := by
          have hc : c = s2.heap.objs.size + 4 ∨ c = s2.heap.objs.size + 2 ∨ c = s2.heap.objs.size + 3 ∨ c = s2.heap.objs.size ∨ c = s2.heap.objs.size + 1 := by simpa using hc
          rcases hc with q | q | q | q | q <;> rw [q] <;> first | exact Nat.le_add_right _ _ | exact Nat.le_refl _
        exact I2.fpOk le (I2.hok.fresh le)
theorem l_zipS {K : PySem.W.Frag} {nx : L2.St → Hp → Prop} {rt : VK} {ts : TS} {σ : L2.St} {H : Hp} {g : TG} {a b : Addr} (xs ys : List V) (hn : ys.length = xs.length) (Pv : Nat → L2.St → Hp → Prop) (h0 : Pv 0 σ H) (hG : ∀ i σ H, i ≤ xs.length → Pv i σ H → SqL K H a xs ∧ SqL K H b ys)
    (hs : ∀ i x y t σ H H', xs[i]? = some x → ys[i]? = some y → Pv i σ H → H t = none → Ex H H' → H' t = some (.tup [x, y]) → g (.ref t) σ H' fun σ2 H2 => ts ⟨Pv (i + 1), rt, nx, Pv (i + 1)⟩ σ2 H2) (hd : ∀ σ H, Pv xs.length σ H → nx σ H) :
    Loops (ItzS K a b) g ts nx rt σ H :=
  loops_of (walk_zipS hn) Pv h0 hG (fun i x σ H H' hi p y => by
    obtain ⟨t, u, v, rfl, ht, rfl, hx, hy⟩ := y
    exact hs i u v t σ H _ hx hy p ht (Ex.new ht) upd_same) hd
end Z

set_option Elab.async false
set_option linter.all false
set_option maxRecDepth 100000
set_option maxHeartbeats 1000000
namespace Z
open PySem L2 PyProof.Rows
/-! sorted of a list of tuples of ints, of one length, any number of them -/
theorem lx_refl : ∀ a : List Int, HT.lexLt a a = false
  | [] => rfl
  | x :: a => by rw [HT.lexLt_cons, if_pos rfl]; exact lx_refl a
theorem lx_asym : ∀ {a b : List Int}, HT.lexLt a b = true → HT.lexLt b a = false
  | [], [], h => by cases h
  | [], _ :: _, _ => rfl
  | _ :: _, [], h => by cases h
  | x :: a, y :: b, h => by
    rw [HT.lexLt_cons] at h ⊢
    by_cases e : x = y
    · subst e
      rw [if_pos rfl] at h ⊢
      exact lx_asym h
    · rw [if_neg e] at h
      rw [if_neg (fun z => e z.symm)]
      have := of_decide_eq_true h
      exact decide_eq_false (by omega)
theorem lx_tr : ∀ {a b c : List Int}, HT.lexLt b a = false → HT.lexLt c b = false → HT.lexLt c a = false
  | [], [], c, _, h => h
  | [], _ :: _, [], _, _ => rfl
  | [], y :: b, z :: c, h1, h2 => rfl
  | x :: a, [], c, h1, h2 => by cases h1
  | x :: a, y :: b, [], h1, h2 => by cases h2
  | x :: a, y :: b, z :: c, h1, h2 => by
    rw [HT.lexLt_cons] at h1 h2 ⊢
    by_cases e1 : y = x
    · subst e1
      rw [if_pos rfl] at h1
      by_cases e2 : z = y
      · subst e2
        rw [if_pos rfl] at h2 ⊢
        exact lx_tr h1 h2
      · rw [if_neg e2] at h2 ⊢
        exact h2
    · rw [if_neg e1] at h1
      have h3 := of_decide_eq_false h1
      by_cases e2 : z = y
      · subst e2
        rw [if_neg e1]
        exact h1
      · rw [if_neg e2] at h2
        have h4 := of_decide_eq_false h2
        rw [if_neg (by omega)]
        exact decide_eq_false (by omega)
theorem lx_anti : ∀ {a b : List Int}, HT.lexLt a b = false → HT.lexLt b a = false → a = b
  | [], [], _, _ => rfl
  | [], _ :: _, h, _ => by cases h
  | _ :: _, [], _, h => by cases h
  | x :: a, y :: b, h1, h2 => by
    rw [HT.lexLt_cons] at h1 h2
    by_cases e : x = y
    · subst e
      rw [if_pos rfl] at h1 h2
      rw [lx_anti h1 h2]
    · rw [if_neg e] at h1
      rw [if_neg (fun z => e z.symm)] at h2
      have := of_decide_eq_false h1
      have := of_decide_eq_false h2
      omega
theorem lx_swo {α : Type} (k : α → List Int) : SrtO.Swo fun x y => HT.lexLt (k x) (k y) := ⟨fun _ _ h => lx_asym h, fun _ _ _ h1 h2 => lx_tr h1 h2⟩
/-- there is one sorted arrangement -/
theorem lx_uniq : ∀ {a b : List (List Int)}, a.Perm b → a.Pairwise (fun x y => HT.lexLt y x = false) → b.Pairwise (fun x y => HT.lexLt y x = false) → a = b
  | [], b, h, _, _ => (List.Perm.eq_nil h.symm).symm
  | x :: a, [], h, _, _ => absurd h.length_eq (by simp)
  | x :: a, y :: b, h, ha, hb => by
    have h1 : HT.lexLt x y = false := by
      rcases List.mem_cons.mp (h.mem_iff.mp (List.mem_cons_self (a := x) (l := a))) with e | hx
      · rw [e]; exact lx_refl _
      · exact (List.pairwise_cons.mp hb).1 x hx
    have h2 : HT.lexLt y x = false := by
      rcases List.mem_cons.mp (h.mem_iff.mpr (List.mem_cons_self (a := y) (l := b))) with e | hy
      · rw [e]; exact lx_refl _
      · exact (List.pairwise_cons.mp ha).1 y hy
    have e := lx_anti h1 h2
    subst e
    rw [lx_uniq h.cons_inv (List.pairwise_cons.mp ha).2 (List.pairwise_cons.mp hb).2]
section
open SrtO
variable {prog : Program} {w : World} {A : Around} {E : Value → Shared → Prop} {s : Shared}
theorem lex_lx {xs ys : List Value} {ns ms : List Int} {Q : Bool → Shared → Prop} {b : Bool} (i : Nat) (hx : IntsAre xs ns) (hy : IntsAre ys ms) (hl : ns.length = ms.length)
    (h : Q (HT.lexLt ns ms) s) : PySem.W.KatLex prog w A b false Q (xs.zip ys) i s := by
  induction hx generalizing ys ms i with
  | nil =>
    cases hy with
    | nil => exact PySem.W.kat_nil h
    | cons q u hy => simp at hl
  | @cons p t xs ns hx ih =>
    cases hy with
    | nil => simp at hl
    | @cons q u ys ms hy =>
      have hl' : ns.length = ms.length := by simpa using hl
      show PySem.W.KatLex prog w A b false Q ((Value.int p t, Value.int q u) :: xs.zip ys) i s
      refine PySem.W.kat_cons (wpAny_eqBool_int ?_)
      rw [HT.lexLt_cons] at h
      by_cases e : p = q
      · subst e
        rw [beq_self_eq_true]
        rw [if_pos rfl] at h
        refine PySem.W.kat_yes ?_
        exact ih (i + 1) hy hl' h
      · rw [show (p == q) = false from beq_eq_false_iff_ne.mpr e]
        rw [if_neg e] at h
        refine PySem.W.kat_no (TS.oneLt_ints _ ?_)
        exact h
/-- tuples of d ints, k says which -/
def TupsK (h : Heap) (d : Nat) (k : Value → List Int) (vs : List Value) : Prop := ∀ v ∈ vs, TS.TupInts h v (k v) ∧ (k v).length = d
theorem TupsK.keeps {h h' : Heap} {d : Nat} {k : Value → List Int} {vs : List Value} (x : TupsK h d k vs) (kk : ∀ b o, h.get? b = some o → o.cls = .type "tuple" → h'.get? b = some o) : TupsK h' d k vs := fun v hv => ⟨(x v hv).1.keeps kk, (x v hv).2⟩
theorem firsts_k {h : Heap} {d : Nat} {k : Value → List Int} (hd : 1 ≤ d) : ∀ vs : List Value, TupsK h d k vs → ∃ fs, PySem.W.KatTups h vs fs ∧ fs.length = vs.length ∧ ∀ f, f ∈ fs → ∃ n t, f = Value.int n t
  | [], _ => ⟨[], PySem.W.KatTups.nil, rfl, fun f hf => by simp at hf⟩
  | v :: vs, x => by
    obtain ⟨fs, kt, hl, hi⟩ := firsts_k hd vs fun u hu => x u (List.mem_cons_of_mem _ hu)
    obtain ⟨⟨a, xs, rfl, ⟨o, ho, hc, n, hdt⟩, i⟩, hn⟩ := x v (List.mem_cons_self ..)
    obtain ⟨y, ys, e⟩ : ∃ y ys, xs.toList = y :: ys := by
      cases q : xs.toList with
      | nil =>
        rw [q] at i
        have l := i.length
        rw [List.length_nil, hn] at l
        omega
      | cons y ys => exact ⟨y, ys, rfl⟩
    obtain ⟨m, t, hy⟩ := i.all y (by rw [e]; exact List.mem_cons_self ..)
    refine ⟨y :: fs, PySem.W.KatTups.cons ho hc hdt ?_ kt, by simp [hl], ?_⟩
    · have z := congrArg (fun l : List Value => l[0]?) e
      simpa using z
    · intro f hf
      rcases List.mem_cons.mp hf with rfl | hf
      · exact ⟨m, t, hy⟩
      · exact hi f hf
theorem tups_cmp {d : Nat} {k : Value → List Int} {vs : List Value} (x : TupsK s.heap d k vs) : Cmp prog w A s (tuples' true) (fun p => p.1 ∈ vs) (lt2 fun v u => HT.lexLt (k v) (k u)) := by
  intro p q hm hm'
  obtain ⟨h1, n1⟩ := x _ hm
  obtain ⟨h2, n2⟩ := x _ hm'
  show wpAny (model prog w) A (keyLt' (tuples' true) p.1 q.1) (fun r s' => s' = s ∧ r = HT.lexLt (k p.1) (k q.1)) (fun _ _ => False) s
  generalize k p.1 = ns at h1 n1 ⊢
  generalize k q.1 = ms at h2 n2 ⊢
  obtain ⟨a, xs, e1, ⟨o, ho, hc, n, hdt⟩, i⟩ := h1
  obtain ⟨a', ys, e2, ⟨o', ho', hc', n', hdt'⟩, i'⟩ := h2
  rw [e1, e2]
  refine PySem.W.kat_lt ho hdt ho' hdt' ?_
  have sz : decide (xs.size < ys.size) = false := by
    have l1 := i.length
    have l2 := i'.length
    rw [Array.length_toList] at l1 l2
    exact decide_eq_false (by omega)
  rw [sz]
  exact lex_lx 0 i i' (by omega) ⟨rfl, rfl⟩
theorem tups_sortable {a : Addr} {vs : List Value} {d : Nat} {k : Value → List Int} (hd : 1 ≤ d) (h0 : 0 < vs.length) (x : TupsK s.heap d k vs) (ha : ∀ o, s.heap.get? a = some o → o.cls ≠ .type "tuple") : SortableO prog w A s a vs fun v u => HT.lexLt (k v) (k u) := by
  intro h' keep
  have x' : TupsK h' d k vs := x.keeps fun b o e c => keep b o (fun z => by subst z; exact ha o e c) e
  obtain ⟨fs, h1, h2, h3⟩ := firsts_k hd vs x'
  refine ⟨tuples' true, fun Q E hq => ?_, tups_cmp x'⟩
  refine PySem.W.kat_kind (T := .type "int") h1 (by omega) (fun f hm => ?_) (by rfl) ?_
  · obtain ⟨n, t, rfl⟩ := h3 f hm
    exact PySem.W.Looks.now
  · have e : (Value.type "int" != Value.type "tuple") = true := by first | decide +kernel | rfl | decide
    rw [e]
    exact hq
end
/-- sorted(xs), xs a list of tuples of d ints, k says which -/
def rSortTk (K : PySem.W.Frag) : List V → Hp → VK → Prop := fun vs H Q => ∃ (a : Addr) (xs : List V) (d : Nat) (k : V → List Int), vs = [V.ref a] ∧ 1 ≤ d ∧ SqL K H a xs ∧ (∀ x ∈ xs, ∃ t, x = V.ref t ∧ SqT K H t ((k x).map V.int) ∧ (k x).length = d) ∧
  ∀ ys p, ys.Perm xs → (ys.map k).Pairwise (fun x y => HT.lexLt y x = false) → H p = none → Q (.ref p) (upd H p (.lst ys))
section
variable {X : Cx}
theorem cr_sortTk : CallR X (.builtin "sorted") (rSortTk X.K) := by
  intro pins s σ H vs us Q I r h
  obtain ⟨a, xs, d, k, rfl, hd, hs, hx, q⟩ := h
  obtain ⟨its, rv, hl, hz⟩ := I.list hs
  rw [Vals.ref1 r]
  obtain ⟨e1, e2⟩ := refs_back rv fun x m => by
    obtain ⟨t, e, _⟩ := hx x m
    exact ⟨t, e⟩
  have hp : TupsK s.heap d (fun u => k (backV u)) its := fun v hv => by
    obtain ⟨t, rfl⟩ := e2 v hv
    have hm : V.ref t ∈ xs := by rw [e1]; exact List.mem_map.mpr ⟨_, hv, rfl⟩
    obtain ⟨t', e, ht, hn⟩ := hx _ hm
    cases e
    obtain ⟨its2, r2, p2, _⟩ := I.tuple ht
    exact ⟨⟨t, its2.toArray, rfl, p2, show IntsAre its2.toArray.toList (k (V.ref t)) from by simpa using r2.ints⟩, hn⟩
  refine SrtO.sorted_ord (lx_swo fun u => k (backV u)) hl.isList (by rw [← rv.length]; exact hz) (fun h2 h₁ a' ha kk => ?_) fun out h1 h2 => ?_
  · refine tups_sortable (s := { s with heap := h₁ }) hd (by omega) (hp.keeps fun b o e _ => (kk b o e).2) fun o e => ?_
    have e' : some o = some (seqObj "list" its.toArray 0) := e.symm.trans ha
    cases e'
    intro c
    exact absurd (Value.type.inj c) (by decide)
  · have h3 : ∀ u ∈ out, ∃ a, u = Value.ref a := fun u hu => e2 u (h2.perm.mem_iff.mp hu)
    obtain ⟨ep, he'⟩ := PyProof.Rows.sortedAll_at s.heap its out.toArray
    have hb : (out.map backV).Perm xs := by
      rw [e1]
      exact h2.perm.map _
    refine ⟨.ref _, upd H (s.heap.objs.size + 1) (.lst (out.map backV)), I.laid (t' := s.toks) (fun _ _ => PyProof.Rows.sortedAll_old) (Nat.le_succ _) ⟨?_, out, ep, vals_back h3, he'⟩, rfl, q _ _ hb ?_ (I.hok.fresh (Nat.le_succ _))⟩
    · rw [hb.length_eq]
      exact hz
    · rw [List.map_map]
      exact List.pairwise_map.mpr h1
end
theorem s_sortTk {K : PySem.W.Frag} {H : Hp} {Q : VK} {a : Addr} {xs : List V} (d : Nat) (k : V → List Int) (hd : 1 ≤ d) (hs : SqL K H a xs) (hx : ∀ x ∈ xs, ∃ t, x = V.ref t ∧ SqT K H t ((k x).map V.int) ∧ (k x).length = d)
    (q : ∀ ys p H', ys.Perm xs → (ys.map k).Pairwise (fun x y => HT.lexLt y x = false) → H p = none → Ex H H' → H' p = some (.lst ys) → Q (.ref p) H') : rSortTk K [.ref a] H Q :=
  ⟨a, xs, d, k, rfl, hd, hs, hx, fun ys p h1 h2 h3 => q ys p _ h1 h2 h3 (Ex.new h3) upd_same⟩
end Z

set_option Elab.async false
set_option linter.all false
set_option maxRecDepth 100000
set_option maxHeartbeats 2000000
namespace Z
open PySem PySem.Spec PyProof.Rows L2 PpSet
/-! {elt for target in iter if ..}: D the new set; O0 how its state begins, Ad how one is put in -/
def tSc2 (O0 : Addr → HO) (Ad : V → Addr → Hp → (Hp → Prop) → Prop) (wi : TI) (g : TG) (tt : TT) (te : TE) (vs : List Nat) : TE := fun σ H Q => wi σ H fun J H1 => ∀ D, H1 D = none → ∃ W : Nat → Nat → Hp → Prop, (∃ m, W 0 m (upd H1 D (O0 D))) ∧ ∀ i m H, W i m H →
  (J.stop i H ∧ Q (.ref D) H) ∨ (J.go i H ∧ ∃ Nx : Hp → Prop, (∀ H', Nx H' → ∃ m', m' < m ∧ W (i + 1) m' H') ∧ ∀ x H', J.yld i H x H' → g x (wipe σ vs) H' fun σ2 H2 => wipe σ2 vs = wipe σ vs ∧ tt σ2 H2 fun b H3 =>
    if b = true then te σ2 H3 fun y H4 => Ad y D H4 Nx else Nx H3)
/-- a kind of set, as it stands over the layer -/
structure SetKd (P : Program) (w : World) (K : PySem.W.Frag) (hu : Around → Prop) (O0 : Addr → HO) (Ad : V → Addr → Hp → (Hp → Prop) → Prop) : Prop where
  new : ∀ {H : Hp} {h : Heap}, ObjOk P w H (h.push { cls := .type "set", dict := none, data := .set #[] 0 (.fresh 0 0 (!w.params.followText "set-order")) }) h.objs.size (O0 h.objs.size)
  add : ∀ {X : Cx} {A : Around} {pins : List (Addr × Obj)} {σ : L2.St} {H : Hp} {s : Shared} {E : Value → Shared → Prop} {D : Addr} {y : V} {u : Value} {R : Hp → Prop} {Q : Value → Shared → Prop}, X.prog = P → X.w = w → X.K = K → hu A → Inv X pins σ H s → RelV y u → Ad y D H R →
    (∀ s' H', Inv X pins σ H' s' → R H' → Q .none s') → wpAny (model P w) A (call (.builtin "set.add") [.ref D, u]) Q E s
section
variable {X : Cx}
theorem sc2_core {hu : Around → Prop} {O0 : Addr → HO} {Ad : V → Addr → Hp → (Hp → Prop) → Prop} {pins : List (Addr × Obj)} {s : Shared} {σ : L2.St} {H : Hp} {Q : VK} {elt tg iter : Expr} {ifs : List Expr} {scope : Scope} {own : List (PySem.Str × Nat)} {pos pos' : Pos} {wi : TI} {g : TG} {tt : TT} {te : TE} {use : Option (Value → Sem Unit)} {Qf : Value → Shared → Prop}
    (S : SetKd X.prog X.w X.K hu O0 Ad) (hA : hu X.A) (hc : X.calm = true) (hN : X.N.Nodup) (I : Inv X pins σ H s) (hi : PI X tg iter wi) (ok : BlkOk X.N X.env.scope scope own)
    (hg : ∀ (s : Shared) (H : Hp) (C : Addr) (cl : List (PySem.Str × Addr)) (fp : List Addr), PG (X.blk s H scope (compEnvC scope cl C X.env) fp) tg g) (ht : ∀ (s : Shared) (H : Hp) (C : Addr) (cl : List (PySem.Str × Addr)) (fp : List Addr), PTs (X.blk s H scope (compEnvC scope cl C X.env) fp) ifs tt)
    (he : ∀ (s : Shared) (H : Hp) (C : Addr) (cl : List (PySem.Str × Addr)) (fp : List Addr), PE (X.blk s H scope (compEnvC scope cl C X.env) fp) elt te) (hs : ∀ x, foldedSetIterable iter X.env x = pure x)
    (h : tSc2 O0 Ad wi g tt te (own.map (·.2)) σ H Q)
    (hRR : ∀ D C s' m H', Inv X pins σ H' s' → Q (.ref D) H' → s'.heap.Ns C m → FpOk X pins H' C → compPost (model X.prog X.w) X.A X.xe use Qf (.ref D) C (.ok .next) s') :
    wpAny (model X.prog X.w) X.A (comprehension (.SetComp elt [⟨tg, iter, ifs, 0⟩] scope pos) scope X.env pos' (newSet (.type "set")) false (eval iter X.env) use) Qf X.xe s := by
  have hfree : ∀ y ∈ scope.names, y.2 = .free → ∃ c, X.env.cells.lookup y.1 = some c := fun y hy e => by
    rcases ok.free y hy e with k | k
    · exact I.ok.has _ (.inl k)
    · exact I.ok.has _ (.inr k)
  refine wpAny_comprehension_free (use := use) rfl hs (closure_ok hfree) ok.kind (fun y hy e => by rw [ok.uniq y hy, e])
    (thn (hi.run pins s σ H _ I h) fun xv s1 hx => thn hx fun itv s2 h2 => ?_)
  obtain ⟨it, fp, tn, J, H2, e, I2, T, st2, f2, q⟩ := h2
  subst e
  refine newSet_ok (newEnv_comp ?_)
  generalize hD : s2.heap.objs.size = D
  have hDn : H2 D = none := I2.hok.fresh (Nat.le_of_eq hD)
  obtain ⟨W, ⟨m0, w0⟩, turn⟩ := q D hDn
  generalize hs3 : ({ s2 with heap := s2.heap.push { cls := .type "set", dict := none, data := .set #[] 0 (.fresh 0 0 (!X.w.params.followText "set-order")) } } : Shared) = s3
  have I3 : Inv X pins σ (upd H2 D (O0 D)) s3 := by
    rw [← hs3]
    refine I2.laid (t' := s2.toks) (fun b o e => Heap.get?_push_of_some _ e) (Nat.le_of_eq hD) ?_
    rw [← hD]
    exact S.new
  have h3 : s3.heap = s2.heap.push { cls := .type "set", dict := none, data := .set #[] 0 (.fresh 0 0 (!X.w.params.followText "set-order")) } := by rw [← hs3]
  have sz : ∀ b ∈ fp, b < s2.heap.objs.size := fun b hb => by
    obtain ⟨o, e, _⟩ := T.obj _ _ st2 b hb
    exact Heap.lt_size e
  have f3 : ∀ b ∈ fp, FpOk X pins (upd H2 D (O0 D)) b ∧ b < s3.heap.objs.size := fun b hb => by
    have hlt := sz b hb
    refine ⟨⟨?_, (f2 b hb).2⟩, by rw [h3, Heap.size_push]; exact Nat.lt_succ_of_lt hlt⟩
    rw [upd_ne (by rw [← hD]; exact Nat.ne_of_lt hlt)]
    exact (f2 b hb).1
  have st3 : tn 0 s3.heap := T.keep _ _ _ st2 fun b _ o e => by rw [h3]; exact Heap.get?_push_of_some _ e
  have I4 := block_start I3 ok hN f3
  have pg := hg s3 (upd H2 D (O0 D)) s3.heap.objs.size (cellsFrom (s3.heap.objs.size + 1) scope.names (cloFrom X.env.cells scope.names [])) fp
  have pt := ht s3 (upd H2 D (O0 D)) s3.heap.objs.size (cellsFrom (s3.heap.objs.size + 1) scope.names (cloFrom X.env.cells scope.names [])) fp
  have pe := he s3 (upd H2 D (O0 D)) s3.heap.objs.size (cellsFrom (s3.heap.objs.size + 1) scope.names (cloFrom X.env.cells scope.names [])) fp
  show codeAny _ _ (.compStart (.SetComp elt [⟨tg, iter, ifs, 0⟩] scope pos) 0 (.ref it) (.ref D) (compEnvC scope (cellsFrom (s3.heap.objs.size + 1) scope.names (cloFrom X.env.cells scope.names [])) s3.heap.objs.size X.env)) (compPost (model X.prog X.w) X.A X.xe use Qf (.ref D) s3.heap.objs.size) { s3 with heap := pushCells (s3.heap.push { cls := .type "dict", data := .dict #[] }) scope.names }
  have nfp : ∀ b ∈ fp, (upd H2 D (O0 D)) b = none := fun b hb => (f3 b hb).1.1
  generalize hce : compEnvC scope (cellsFrom (s3.heap.objs.size + 1) scope.names (cloFrom X.env.cells scope.names [])) s3.heap.objs.size X.env = ce at I4 pg pt pe ⊢
  have cL : ce.locals = s3.heap.objs.size := by subst hce; rfl
  generalize hH3 : upd H2 D (O0 D) = H3 at I3 I4 pg pt pe w0 nfp f3
  generalize hs4 : ({ s3 with heap := pushCells (s3.heap.push { cls := .type "dict", data := .dict #[] }) scope.names } : Shared) = s4 at I4 ⊢
  have st4 : tn 0 s4.heap := T.keep _ _ _ st3 fun b _ o e => by rw [← hs4]; exact pushCells_keeps _ _ _ _ (Heap.get?_push_of_some _ e)
  have stat : ∀ {σ' : L2.St} {H' : Hp} {s' : Shared}, Inv (X.blk s3 H3 scope ce fp) [] σ' H' s' → (∀ b ∈ fp, H' b = none) → ∀ b ∈ fp, FpOk (X.blk s3 H3 scope ce fp) [] H' b := fun {σ' H' s'} I' hn b hb =>
    ⟨hn b hb, (I'.ok.exf b hb).1, I'.ok.exfs b hb, .inl hb, fun x c e => (I'.ok.exf b hb).2 x c e, fun p hp => absurd (show p ∈ ([] : List (Addr × Obj)) ++ [] from hp) (by simp)⟩
  have loop : codeAny (model X.prog X.w) X.A (.compLoop (.SetComp elt [⟨tg, iter, ifs, 0⟩] scope pos) 0 (.ref it) (.ref D) ce) (compPost (model X.prog X.w) X.A X.xe use Qf (.ref D) s3.heap.objs.size) s4 := by
    refine compLoopS_any (fun n s' => ∃ i H', Inv (X.blk s3 H3 scope ce fp) [] (wipe σ (own.map (·.2))) H' s' ∧ tn i s'.heap ∧ (∀ b ∈ fp, H' b = none) ∧ W i n H') ?_ m0 ⟨0, H3, I4, st4, nfp, w0⟩
    rintro n s5 ⟨i, H5, I5, st5, n5, w5⟩
    rcases turn i n H5 w5 with ⟨stop, qq⟩ | ⟨go, Nx, hNx, step⟩
    · have td := T.done (X.blk s3 H3 scope ce fp) rfl rfl rfl hc i [] s5 _ H5 (fun _ _ => False) I5 (stat I5 n5) st5 stop
      refine thnF td fun r s6 ⟨hr, I6⟩ => ?_
      subst hr
      have I7 : Inv X pins σ H5 s6 := I3.call' (ch := fp) I6.os I6.base I6.hok I6.bare fun b hb => ⟨(f3 b hb).1.2.2.2.1, (f3 b hb).1.2.1, (f3 b hb).1.2.2.2.2.1, (f3 b hb).1.2.2.2.2.2⟩
      have nC : H5 s3.heap.objs.size = none := by
        have z : H5 ce.locals = none := I6.free
        rw [cL] at z
        exact z
      obtain ⟨m, hn, _⟩ := I6.loc
      have hn : s6.heap.Ns ce.locals m := hn
      rw [cL] at hn
      exact hRR D s3.heap.objs.size s6 m H5 I7 qq hn (I3.fpOk (Nat.le_refl _) nC)
    · have ti := T.item (X.blk s3 H3 scope ce fp) rfl rfl rfl hc i [] s5 _ H5 (fun _ _ => False) I5 (stat I5 n5) st5 go
      refine thnF ti fun r s6 ⟨u, hr, h6⟩ => ?_
      subst hr
      refine thnF h6 fun _ s7 ⟨x, H7, I7, r7, y7, st7, n7⟩ => ?_
      have I7' := I7.pinned (stat I7 n7) (T.obj _ _ st7)
      refine thnF (pg.run _ s7 _ H7 x u _ I7' r7 (step x H7 y7)) fun _ s8 ⟨σ8, H8, I8, hw8, q8⟩ => ?_
      refine thnF (pt.run _ s8 σ8 H8 _ I8 q8) fun b s9 ⟨H9, I9, q9⟩ => ?_
      have fin : ∀ {s' : Shared} {H' : Hp}, Inv (X.blk s3 H3 scope ce fp) ([] ++ pinsAt fp s7.heap) σ8 H' s' → Nx H' → ∃ m, m < n ∧ ∃ i H', Inv (X.blk s3 H3 scope ce fp) [] (wipe σ (own.map (·.2))) H' s' ∧ tn i s'.heap ∧ (∀ b ∈ fp, H' b = none) ∧ W i m H' := fun {s' H'} I' nx => by
        obtain ⟨m', hm, w'⟩ := hNx H' nx
        have pin' : ∀ b ∈ fp, ∀ o, s7.heap.get? b = some o → s'.heap.get? b = some o ∧ H' b = none := fun b hb o e =>
          let z := I'.pin (b, o) (List.mem_append_right _ (List.mem_append_right _ (mem_pinsAt hb e)))
          ⟨z.1, z.2.1⟩
        have hl : (wipe σ (own.map (·.2))).length = σ8.length := by rw [← hw8, wipe_length]
        refine ⟨m', hm, i + 1, H', (I'.unpinned (pins := [])).weak hl (fun j v e => ?_), T.keep _ _ _ st7 fun b hb o e => (pin' b hb o e).1, fun b hb => ?_, w'⟩
        · rw [← hw8] at e
          exact (wipe_some e).1
        · obtain ⟨o, e, _⟩ := T.obj _ _ st7 b hb
          exact (pin' b hb o e).2
      cases b with
      | false =>
        simp only [Bool.false_eq_true, if_false] at q9 ⊢
        exact fin I9 q9
      | true =>
        simp only [if_true] at q9 ⊢
        refine thnF (pe.run _ s9 σ8 H9 _ I9 q9) fun z s10 ⟨yv, H10, I10, r10, ad⟩ => ?_
        exact S.add (X := X.blk s3 H3 scope ce fp) rfl rfl rfl hA I10 r10 ad fun s11 H11 I11 nx => fin I11 nx
  exact codeAny_compStart_set loop (T.self X.A 0 _ _ _ st4 loop)
/-- as a value -/
theorem pe_sc2 {hu : Around → Prop} {O0 : Addr → HO} {Ad : V → Addr → Hp → (Hp → Prop) → Prop} {elt tg iter : Expr} {ifs : List Expr} {scope : Scope} {own : List (PySem.Str × Nat)} {pos : Pos} {wi : TI} {g : TG} {tt : TT} {te : TE} (S : SetKd X.prog X.w X.K hu O0 Ad) (hA : hu X.A) (hc : X.calm = true) (hN : X.N.Nodup) (hi : PI X tg iter wi) (ok : BlkOk X.N X.env.scope scope own)
    (hg : ∀ (s : Shared) (H : Hp) (C : Addr) (cl : List (PySem.Str × Addr)) (fp : List Addr), PG (X.blk s H scope (compEnvC scope cl C X.env) fp) tg g) (ht : ∀ (s : Shared) (H : Hp) (C : Addr) (cl : List (PySem.Str × Addr)) (fp : List Addr), PTs (X.blk s H scope (compEnvC scope cl C X.env) fp) ifs tt)
    (he : ∀ (s : Shared) (H : Hp) (C : Addr) (cl : List (PySem.Str × Addr)) (fp : List Addr), PE (X.blk s H scope (compEnvC scope cl C X.env) fp) elt te) (hs : ∀ x, foldedSetIterable iter X.env x = pure x := by intro _; rfl) :
    PE X (.SetComp elt [⟨tg, iter, ifs, 0⟩] scope pos) (tSc2 O0 Ad wi g tt te (own.map (·.2))) := by
  refine ⟨fun pins s σ H Q I h => ?_⟩
  rw [eval_SetComp]
  refine sc2_core S hA hc hN I hi ok hg ht he hs h fun D C s' m H' I' q hn f => ⟨m, hn, fun h'' sb => ?_⟩
  obtain ⟨f0, f1, f2, f3, f4, f5⟩ := f
  exact ⟨.ref D, H', I'.turned (t' := s'.toks) (fun b o hb e => (sb.2 b hb).trans e) f0 f1 f3 f4 f5, rfl, q⟩
end
/-! sets of ints -/
def O0I (w : World) (D : Addr) : HO := SetO w D (fun _ => false) 0
def AdI (w : World) (y : V) (D : Addr) (H : Hp) (R : Hp → Prop) : Prop := ∃ (k : Int) (S : Int → Bool) (n : Nat), y = .int k ∧ H D = some (SetO w D S n) ∧ n + 1 < scanBound ∧ R (upd H D (SetO w D (fun j => S j || decide (j = k)) (if S k = true then n else n + 1)))
theorem kd_ints {P : Program} {w : World} {K : PySem.W.Frag} : SetKd P w K (fun _ => True) (O0I w) (AdI w) where
  new := setO_new (setR_fresh w)
  add := by
    intro X A pins σ H s E D y u R Q hP hw hK _ I ry h k
    subst hP hw
    obtain ⟨i, S, n, rfl, hD, room, hR⟩ := h
    obtain ⟨tk, rfl⟩ := ry
    have R0 := setO_get I hD
    refine setR_add R0 room fun h' sb new => ?_
    have he : ∃ u, h'.get? D = some u := by
      have ⟨o, _, _, _, ho, _⟩ := new
      exact ⟨o, ho⟩
    exact k _ _ (I.write (e := D) (t' := s.toks + 1) (by rw [hD]; trivial) (.inl rfl) (fun b u hb hu => (sb.2 b hb).trans hu) he (setO_new new)) hR
/-! sets of tuples of ints -/
def O0T (P : Program) (w : World) (D : Addr) : HO := SetTO P w D []
def AdT (K : PySem.W.Frag) (P : Program) (w : World) (y : V) (D : Addr) (H : Hp) (R : Hp → Prop) : Prop := ∃ (t : Addr) (k : List Int) (L : List (Addr × List Int)), y = .ref t ∧ SqT K H t (k.map V.int) ∧ H D = some (SetTO P w D L) ∧ (∀ p ∈ L, SqT K H p.1 (p.2.map V.int)) ∧ L.length + 1 < 64 ∧
  ∀ L', (k ∈ L.map (·.2) → L' = L) → (k ∉ L.map (·.2) → L'.Perm ((t, k) :: L)) → R (upd H D (SetTO P w D L'))
theorem kd_tups {P : Program} {w : World} {K : PySem.W.Frag} : SetKd P w K (fun A => A.units + 3 < cLine) (O0T P w) (AdT K P w) where
  new := setTO_new (SetTR.t0 (setTR_fresh (Heap.get?_push_size _ rfl)))
  add := by
    intro X A pins σ H s E D y u R Q hP hw hK hA I ry h kk
    subst hP hw hK
    obtain ⟨t, k, L, rfl, ht, hD, hL, few, hR⟩ := h
    obtain rfl : u = Value.ref t := ry
    have R0 : SetT0 X.prog X.w s.heap D L := (I.hok D _ hD).1
    obtain ⟨es, ep, tb, R1⟩ := R0.full fun p hp => I.isT (hL p hp)
    have hx : IsT X.prog X.w s.heap k t := I.isT ht
    obtain ⟨o, ho, hex, hd⟩ := R1.ob
    have hu1 : A.in1.units < cLine := by
      have : A.in1.units ≤ A.units + 1 := by simp [Around.in1]
      omega
    refine wpAny_call_entry F.slot_set_add ⟨o, ho, hex.1⟩ F.entry_set_add ?_ (F.args_set_add_2 _ _)
    unfold Builtin.«set.add» Builtin.Frozenset.oneOther
    simp only [List.isEmpty_nil, bind_assoc]
    unfold Builtin.Frozenset.addrOf setAdd
    refine wpAny_bind (wpAny_pure ?_)
    try dsimp only
    refine wpAny_bind (wpAny_pure ?_)
    try dsimp only
    refine wpAny_bind ?_
    refine wpAny_holding ?_
    refine wpAny_bind (wpAny_pyHash_tuple hu1 hx ?_)
    refine add_at (s := { s with toks := s.toks + (k.length + 1) }) (R1.keep (fun o e => e) fun p hp => R1.tup p hp) hx hu1 few fun b h' L' es' ep' t' hsb hS2 c1 c2 => ?_
    show wpAny _ _ (ret Value.none) _ _ _
    have he : ∃ u, h'.get? D = some u := by
      obtain ⟨o', ho', _⟩ := hS2.ob
      exact ⟨o', ho'⟩
    refine wpAny_pure ⟨_, rfl, kk _ _ (I.write (e := D) (t' := s.toks + (k.length + 1)) (by rw [hD]; trivial) (.inl rfl) (fun b u hb hu => (hsb.2 b hb).trans hu) he (setTO_new hS2.t0)) (hR L' c1 c2)⟩
end Z

set_option Elab.async false
set_option linter.all false
set_option maxRecDepth 100000
set_option maxHeartbeats 1000000
namespace Z
open PySem L2
/-! dicts by steps, comprehensions of dicts and sets -/
section
variable {K : PySem.W.Frag} {σ : L2.St} {H : Hp} {Q : VK} {nx bk ct : L2.St → Hp → Prop} {rt : VK}
theorem s_dnew (k : ∀ p H', H p = none → Ex H H' → H' p = some (.dK []) → Q (.ref p) H') : tDNewK σ H Q := fun p hp => k p _ hp (Ex.new hp) upd_same
def DGetR (x y : V) (H : Hp) (Q : VK) : Prop := ∃ a v, x = .ref a ∧ DGet H a y (some v) ∧ Q v H
theorem s_tDGet {td ty : TE} (k : td σ H fun x H1 => ty σ H1 fun y H2 => DGetR x y H2 Q) : tDGet td ty σ H Q := k
theorem s_dgetI {a : Addr} {n : Int} {kvs : List (Key × V)} {v : V} (h : H a = some (.dK kvs)) (e : valV kvs (Sum.inl n) = some v) (k : Q v H) : DGetR (.ref a) (.int n) H Q := ⟨a, v, rfl, by rw [← e]; exact DGet.k (k := Sum.inl n) h, k⟩
def DInR (y x : V) (H : Hp) (Q : VK) : Prop := ∃ a o, x = .ref a ∧ DGet H a y o ∧ Q (.bl o.isSome) H
theorem s_tDIn {td ty : TE} (k : ty σ H fun y H1 => td σ H1 fun x H2 => DInR y x H2 Q) : tDIn ty td σ H Q := k
theorem s_dinI {a : Addr} {n : Int} {kvs : List (Key × V)} (h : H a = some (.dK kvs)) (k : Q (.bl (valV kvs (Sum.inl n)).isSome) H) : DInR (.int n) (.ref a) H Q := ⟨a, _, rfl, DGet.k (k := Sum.inl n) h, k⟩
def DNotInR (y x : V) (H : Hp) (Q : VK) : Prop := ∃ a o, x = .ref a ∧ DGet H a y o ∧ Q (.bl (!o.isSome)) H
theorem s_tDNotIn {td ty : TE} (k : ty σ H fun y H1 => td σ H1 fun x H2 => DNotInR y x H2 Q) : tDNotIn ty td σ H Q := k
theorem s_dnotinI {a : Addr} {n : Int} {kvs : List (Key × V)} (h : H a = some (.dK kvs)) (k : Q (.bl (!(valV kvs (Sum.inl n)).isSome)) H) : DNotInR (.int n) (.ref a) H Q := ⟨a, _, rfl, DGet.k (k := Sum.inl n) h, k⟩
def DPutR (x y v : V) (H : Hp) (R : Hp → Prop) : Prop := ∃ a H4, x = .ref a ∧ DPut H a y v H4 ∧ R H4
theorem s_tDPut {td ty tv : TE} (k : tv σ H fun v H1 => td σ H1 fun x H2 => ty σ H2 fun y H3 => DPutR x y v H3 fun H4 => nx σ H4) : sDPut td ty tv ⟨nx, rt, bk, ct⟩ σ H := k
theorem s_dputI {a : Addr} {n : Int} {v : V} {kvs : List (Key × V)} {R : Hp → Prop} (h : H a = some (.dK kvs)) (z : kvs.length < 100000) (k : ∀ H', Fr a H H' → H' a = some (.dK (putK kvs (Sum.inl n) v)) → R H') : DPutR (.ref a) (.int n) v H R :=
  ⟨a, _, rfl, DPut.k (k := Sum.inl n) h (szl (by omega)), k _ Fr.upd upd_same⟩
def DGet2R (x : V) (a : Addr) (y z : V) (H : Hp) (Q : VK) : Prop := ∃ o, DGet H a y o ∧ Q (o.getD z) H
theorem s_tDGet2 {td ty tx : TE} (k : td σ H fun x H1 => ∃ a, x = .ref a ∧ IsD H1 a ∧ ty σ H1 fun y H2 => tx σ H2 fun z H3 => DGet2R x a y z H3 Q) : tDGet2 td ty tx σ H Q := k
theorem s_isD {a : Addr} {kvs : List (Key × V)} {R : Addr → Prop} (h : H a = some (.dK kvs)) (k : R a) : ∃ a', V.ref a = .ref a' ∧ IsD H a' ∧ R a' := ⟨a, rfl, .inl ⟨kvs, .inl h⟩, k⟩
theorem s_dget2I {x : V} {a : Addr} {n : Int} {z : V} {kvs : List (Key × V)} (h : H a = some (.dK kvs)) (k : Q ((valV kvs (Sum.inl n)).getD z) H) : DGet2R x a (.int n) z H Q := ⟨_, DGet.k (k := Sum.inl n) h, k⟩
theorem s_tDGet1 {td ty : TE} (k : td σ H fun x H1 => ∃ a, x = .ref a ∧ IsD H1 a ∧ ty σ H1 fun y H2 => DGet2R x a y .non H2 Q) : tDGet1 td ty σ H Q := k
/-! {k: v for ..} -/
def DcPut (D : Addr) (y z : V) (H : Hp) (R : Hp → Prop) : Prop := ∃ kvs k, y = kV k ∧ H D = some (.dK kvs) ∧ kvs.length < sizeLine ∧ R (upd H D (.dK (putK kvs k z)))
theorem s_dcPut {D : Addr} {n : Int} {z : V} {kvs : List (Key × V)} {R : Hp → Prop} (h : H D = some (.dK kvs)) (hz : kvs.length < 100000) (k : ∀ H', Fr D H H' → H' D = some (.dK (putK kvs (Sum.inl n) z)) → R H') : DcPut D (.int n) z H R :=
  ⟨kvs, Sum.inl n, rfl, h, szl (by omega), k _ Fr.upd upd_same⟩
def DcW (J : It) (g : TG) (tt : TT) (tk tv : TE) (vs : List Nat) (σ : L2.St) (H1 : Hp) (Q : VK) : Prop := ∀ D, H1 D = none → ∃ W : Nat → Nat → Hp → Prop, (∃ m, W 0 m (upd H1 D (.dK []))) ∧ ∀ i m H, W i m H →
  (J.stop i H ∧ Q (.ref D) H) ∨ (J.go i H ∧ ∃ Nx : Hp → Prop, (∀ H', Nx H' → ∃ m', m' < m ∧ W (i + 1) m' H') ∧ ∀ x H', J.yld i H x H' → g x (wipe σ vs) H' fun σ2 H2 => wipe σ2 vs = wipe σ vs ∧ tt σ2 H2 fun b H3 =>
    if b = true then tk σ2 H3 fun y H4 => tv σ2 H4 fun z H5 => DcPut D y z H5 Nx else Nx H3)
theorem s_dc {wi : TI} {g : TG} {tt : TT} {tk tv : TE} {vs : List Nat} (k : wi σ H fun J H1 => DcW J g tt tk tv vs σ H1 Q) : tDc wi g tt tk tv vs σ H Q := k
theorem dc_it {J : It} {n : Nat} {G : Hp → Prop} {Y : Nat → Hp → V → Hp → Prop} {g : TG} {tt : TT} {tk tv : TE} {vs : List Nat} (w : Walk J n G Y) (Pv : Addr → Nat → Hp → Prop)
    (h0 : ∀ D H', H D = none → Ex H H' → H' D = some (.dK []) → Pv D 0 H') (hG : ∀ D i H', Pv D i H' → G H')
    (hs : ∀ D i x H1 H1', i < n → Pv D i H1 → Y i H1 x H1' → g x (wipe σ vs) H1' fun σ2 H2 => wipe σ2 vs = wipe σ vs ∧ tt σ2 H2 fun b H3 =>
      if b = true then tk σ2 H3 fun y H4 => tv σ2 H4 fun z H5 => DcPut D y z H5 (Pv D (i + 1)) else Pv D (i + 1) H3)
    (hd : ∀ D H', Pv D n H' → Q (.ref D) H') : DcW J g tt tk tv vs σ H Q := by
  intro D hD
  refine ⟨fun i m H => m = n - i ∧ i ≤ n ∧ Pv D i H, ⟨n, by simp, Nat.zero_le _, h0 D _ hD (Ex.new hD) upd_same⟩, ?_⟩
  rintro i m H ⟨rfl, hi, p⟩
  have q := hG D i H p
  by_cases hlt : i < n
  · refine .inr ⟨w.goes i H hlt q, Pv D (i + 1), fun H' p' => ⟨n - (i + 1), by omega, rfl, hlt, p'⟩, fun x H' y => ?_⟩
    exact hs D i x H H' hlt p (w.yields i H x H' hlt q y)
  · have e : i = n := by omega
    subst e
    exact .inl ⟨w.stops H q, hd D H p⟩
theorem dc_list {a : Addr} {g : TG} {tt : TT} {tk tv : TE} {vs : List Nat} (xs : List V) (h : SqL K H a xs) (Pv : Addr → Nat → Hp → Prop)
    (h0 : ∀ D H', H D = none → Ex H H' → H' D = some (.dK []) → Pv D 0 H') (hG : ∀ D i H', Pv D i H' → SqL K H' a xs)
    (hs : ∀ D i x H1, xs[i]? = some x → Pv D i H1 → g x (wipe σ vs) H1 fun σ2 H2 => wipe σ2 vs = wipe σ vs ∧ tt σ2 H2 fun b H3 =>
      if b = true then tk σ2 H3 fun y H4 => tv σ2 H4 fun z H5 => DcPut D y z H5 (Pv D (i + 1)) else Pv D (i + 1) H3)
    (hd : ∀ D H', Pv D xs.length H' → Q (.ref D) H') : ∃ a', V.ref a = .ref a' ∧ (∃ xs, SqL K H a' xs) ∧ DcW (Itl K a') g tt tk tv vs σ H Q :=
  ⟨a, rfl, ⟨xs, h⟩, dc_it walk_list Pv h0 hG (fun D i x H1 H1' hi p y => by
    obtain ⟨e, y⟩ := y
    subst e
    exact hs D i x _ y p) hd⟩
/-! {x for ..} -/
def ScW (O0 : Addr → HO) (Ad : V → Addr → Hp → (Hp → Prop) → Prop) (J : It) (g : TG) (tt : TT) (te : TE) (vs : List Nat) (σ : L2.St) (H1 : Hp) (Q : VK) : Prop := ∀ D, H1 D = none → ∃ W : Nat → Nat → Hp → Prop, (∃ m, W 0 m (upd H1 D (O0 D))) ∧ ∀ i m H, W i m H →
  (J.stop i H ∧ Q (.ref D) H) ∨ (J.go i H ∧ ∃ Nx : Hp → Prop, (∀ H', Nx H' → ∃ m', m' < m ∧ W (i + 1) m' H') ∧ ∀ x H', J.yld i H x H' → g x (wipe σ vs) H' fun σ2 H2 => wipe σ2 vs = wipe σ vs ∧ tt σ2 H2 fun b H3 =>
    if b = true then te σ2 H3 fun y H4 => Ad y D H4 Nx else Nx H3)
theorem s_sc {O0 : Addr → HO} {Ad : V → Addr → Hp → (Hp → Prop) → Prop} {wi : TI} {g : TG} {tt : TT} {te : TE} {vs : List Nat} (k : wi σ H fun J H1 => ScW O0 Ad J g tt te vs σ H1 Q) : tSc2 O0 Ad wi g tt te vs σ H Q := k
theorem sc_it {O0 : Addr → HO} {Ad : V → Addr → Hp → (Hp → Prop) → Prop} {J : It} {n : Nat} {G : Hp → Prop} {Y : Nat → Hp → V → Hp → Prop} {g : TG} {tt : TT} {te : TE} {vs : List Nat} (w : Walk J n G Y) (Pv : Addr → Nat → Hp → Prop)
    (h0 : ∀ D H', H D = none → Ex H H' → H' D = some (O0 D) → Pv D 0 H') (hG : ∀ D i H', Pv D i H' → G H')
    (hs : ∀ D i x H1 H1', i < n → Pv D i H1 → Y i H1 x H1' → g x (wipe σ vs) H1' fun σ2 H2 => wipe σ2 vs = wipe σ vs ∧ tt σ2 H2 fun b H3 =>
      if b = true then te σ2 H3 fun y H4 => Ad y D H4 (Pv D (i + 1)) else Pv D (i + 1) H3)
    (hd : ∀ D H', Pv D n H' → Q (.ref D) H') : ScW O0 Ad J g tt te vs σ H Q := by
  intro D hD
  refine ⟨fun i m H => m = n - i ∧ i ≤ n ∧ Pv D i H, ⟨n, by simp, Nat.zero_le _, h0 D _ hD (Ex.new hD) upd_same⟩, ?_⟩
  rintro i m H ⟨rfl, hi, p⟩
  have q := hG D i H p
  by_cases hlt : i < n
  · refine .inr ⟨w.goes i H hlt q, Pv D (i + 1), fun H' p' => ⟨n - (i + 1), by omega, rfl, hlt, p'⟩, fun x H' y => ?_⟩
    exact hs D i x H H' hlt p (w.yields i H x H' hlt q y)
  · have e : i = n := by omega
    subst e
    exact .inl ⟨w.stops H q, hd D H p⟩
theorem sc_list {O0 : Addr → HO} {Ad : V → Addr → Hp → (Hp → Prop) → Prop} {a : Addr} {g : TG} {tt : TT} {te : TE} {vs : List Nat} (xs : List V) (h : SqL K H a xs) (Pv : Addr → Nat → Hp → Prop)
    (h0 : ∀ D H', H D = none → Ex H H' → H' D = some (O0 D) → Pv D 0 H') (hG : ∀ D i H', Pv D i H' → SqL K H' a xs)
    (hs : ∀ D i x H1, xs[i]? = some x → Pv D i H1 → g x (wipe σ vs) H1 fun σ2 H2 => wipe σ2 vs = wipe σ vs ∧ tt σ2 H2 fun b H3 =>
      if b = true then te σ2 H3 fun y H4 => Ad y D H4 (Pv D (i + 1)) else Pv D (i + 1) H3)
    (hd : ∀ D H', Pv D xs.length H' → Q (.ref D) H') : ∃ a', V.ref a = .ref a' ∧ (∃ xs, SqL K H a' xs) ∧ ScW O0 Ad (Itl K a') g tt te vs σ H Q :=
  ⟨a, rfl, ⟨xs, h⟩, sc_it walk_list Pv h0 hG (fun D i x H1 H1' hi p y => by
    obtain ⟨e, y⟩ := y
    subst e
    exact hs D i x _ y p) hd⟩
theorem s_adI {w : World} {D : Addr} {n : Int} {S : Int → Bool} {m : Nat} {R : Hp → Prop} (h : H D = some (SetO w D S m)) (room : m + 1 < scanBound) (k : ∀ H', Fr D H H' → H' D = some (SetO w D (fun j => S j || decide (j = n)) (if S n = true then m else m + 1)) → R H') : AdI w (.int n) D H R :=
  ⟨n, S, m, rfl, h, room, k _ Fr.upd upd_same⟩
theorem s_adT {P : Program} {w : World} {D t : Addr} {ks : List Int} {L : List (Addr × List Int)} {R : Hp → Prop} (ht : SqT K H t (ks.map V.int)) (h : H D = some (SetTO P w D L)) (hL : ∀ p ∈ L, SqT K H p.1 (p.2.map V.int)) (few : L.length + 1 < 64)
    (k : ∀ L' H', (ks ∈ L.map (·.2) → L' = L) → (ks ∉ L.map (·.2) → L'.Perm ((t, ks) :: L)) → Fr D H H' → H' D = some (SetTO P w D L') → R H') : AdT K P w (.ref t) D H R :=
  ⟨t, ks, L, rfl, ht, h, hL, few, fun L' h1 h2 => k L' _ h1 h2 Fr.upd upd_same⟩
/-- x in xs, a list of data -/
theorem s_inD {x : V} {a : Addr} (d : PyData) (ds : List PyData) (hx : Dp K H x d) (ha : Dp K H (.ref a) (.list ds)) (h1 : SeqAt.shaped d = true) (h2 : SeqAt.shaped (.list ds) = true) (k : Q (.bl (ds.any fun z => PyData.eqv z d)) H) : rInD K x (.ref a) H Q := ⟨d, ds, hx, ha, h1, h2, k⟩
end
/-! tuples stay where lists, dicts and others change -/
def Tk (K : PySem.W.Frag) (H H' : Hp) : Prop := ∀ (a : Addr) (xs : List V), SqT K H a xs → SqT K H' a xs
theorem Ex.tk {K : PySem.W.Frag} {H H' : Hp} (e : Ex H H') : Tk K H H' := fun _ _ h => e.sqT h
theorem Tk.refl {K : PySem.W.Frag} {H : Hp} : Tk K H H := fun _ _ h => h
theorem Tk.trans {K : PySem.W.Frag} {H H1 H2 : Hp} (a : Tk K H H1) (b : Tk K H1 H2) : Tk K H H2 := fun _ _ h => b _ _ (a _ _ h)
theorem tk_fr {K : PySem.W.Frag} {b : Addr} {o : HO} {H H' : Hp} (e : Fr b H H') (hb : H b = some o) (n1 : ∀ xs, o ≠ .tup xs) (n2 : ∀ q u, o ≠ .frz q u) : Tk K H H' := fun a xs h => by
  have ne : ∀ {u}, H a = some u → u ≠ o → a ≠ b := fun h1 h2 z => by
    subst z
    rw [h1] at hb
    exact h2 (Option.some.inj hb)
  rcases h with (h | ⟨q, h⟩) | h
  · exact .inl (.inl (e _ _ (ne h (fun z => n1 _ z.symm)) h))
  · exact .inl (.inr ⟨q, e _ _ (ne h (fun z => n2 _ _ z.symm)) h⟩)
  · exact .inr h
theorem tk_lst {K : PySem.W.Frag} {b : Addr} {ys : List V} {H H' : Hp} (e : Fr b H H') (hb : H b = some (.lst ys)) : Tk K H H' := tk_fr e hb (fun _ z => by cases z) (fun _ _ z => by cases z)
theorem tk_dK {K : PySem.W.Frag} {b : Addr} {kvs : List (Key × V)} {H H' : Hp} (e : Fr b H H') (hb : H b = some (.dK kvs)) : Tk K H H' := tk_fr e hb (fun _ z => by cases z) (fun _ _ z => by cases z)
theorem tk_ins {K : PySem.W.Frag} {b C dx : Addr} {fs : List (Str × V)} {H H' : Hp} (e : Fr b H H') (hb : H b = some (.ins C dx fs)) : Tk K H H' := tk_fr e hb (fun _ z => by cases z) (fun _ _ z => by cases z)
theorem tk_set {K : PySem.W.Frag} {w : World} {b : Addr} {S : Int → Bool} {m : Nat} {H H' : Hp} (e : Fr b H H') (hb : H b = some (SetO w b S m)) : Tk K H H' :=
  tk_fr e hb (fun _ z => by have z' : HO.ext _ = HO.tup _ := z; cases z') (fun _ _ z => by have z' : HO.ext _ = HO.frz _ _ := z; cases z')
theorem tk_setT {K : PySem.W.Frag} {P : Program} {w : World} {b : Addr} {L : List (Addr × List Int)} {H H' : Hp} (e : Fr b H H') (hb : H b = some (SetTO P w b L)) : Tk K H H' :=
  tk_fr e hb (fun _ z => by have z' : HO.ext _ = HO.tup _ := z; cases z') (fun _ _ z => by have z' : HO.ext _ = HO.frz _ _ := z; cases z')
/-! each of one list is of the other's -/
inductive All2 {α β : Type} (R : α → β → Prop) : List α → List β → Prop
  | nil : All2 R [] []
  | cons {a : α} {b : β} {as : List α} {bs : List β} : R a b → All2 R as bs → All2 R (a :: as) (b :: bs)
namespace All2
variable {α β : Type} {R R' : α → β → Prop}
theorem mono (f : ∀ a b, R a b → R' a b) : ∀ {as : List α} {bs : List β}, All2 R as bs → All2 R' as bs
  | _, _, .nil => .nil
  | _, _, .cons h r => .cons (f _ _ h) (r.mono f)
theorem len : ∀ {as : List α} {bs : List β}, All2 R as bs → as.length = bs.length
  | _, _, .nil => rfl
  | _, _, .cons _ r => congrArg Nat.succ r.len
theorem app : ∀ {as as' : List α} {bs bs' : List β}, All2 R as bs → All2 R as' bs' → All2 R (as ++ as') (bs ++ bs')
  | _, _, _, _, .nil, r => r
  | _, _, _, _, .cons h r, r' => .cons h (r.app r')
theorem snoc {as : List α} {bs : List β} {a : α} {b : β} (h : All2 R as bs) (h1 : R a b) : All2 R (as ++ [a]) (bs ++ [b]) := h.app (.cons h1 .nil)
theorem get : ∀ {as : List α} {bs : List β} {i : Nat} {a : α}, All2 R as bs → as[i]? = some a → ∃ b, bs[i]? = some b ∧ R a b
  | _, _, 0, _, .cons h _, e => by
    cases e
    exact ⟨_, rfl, h⟩
  | _, _, i + 1, _, .cons _ r, e => r.get (i := i) (by simpa using e)
theorem get' : ∀ {as : List α} {bs : List β} {i : Nat} {b : β}, All2 R as bs → bs[i]? = some b → ∃ a, as[i]? = some a ∧ R a b
  | _, _, 0, _, .cons h _, e => by
    cases e
    exact ⟨_, rfl, h⟩
  | _, _, i + 1, _, .cons _ r, e => r.get' (i := i) (by simpa using e)
theorem map_r {γ : Type} {S : α → γ → Prop} (f : β → γ) (g : ∀ a b, R a b → S a (f b)) : ∀ {as : List α} {bs : List β}, All2 R as bs → All2 S as (bs.map f)
  | _, _, .nil => .nil
  | _, _, .cons h r => .cons (g _ _ h) (r.map_r f g)
theorem mem_l : ∀ {as : List α} {bs : List β} {a : α}, All2 R as bs → a ∈ as → ∃ b, b ∈ bs ∧ R a b
  | _, _, _, .cons h r, m => by
    rcases List.mem_cons.mp m with rfl | m
    · exact ⟨_, List.mem_cons_self, h⟩
    · obtain ⟨b, m, q⟩ := r.mem_l m
      exact ⟨b, List.mem_cons_of_mem _ m, q⟩
end All2
theorem all2_dp {K : PySem.W.Frag} {H : Hp} {α : Type} {R : V → α → Prop} (f : α → PyData) (g : ∀ v a, R v a → Dp K H v (f a)) : ∀ {vs : List V} {as : List α}, All2 R vs as → DpAll K H vs (as.map f)
  | _, _, .nil => .nil
  | _, _, .cons h r => .cons (g _ _ h) (all2_dp f g r)
end Z

set_option Elab.async false
set_option linter.all false
set_option maxRecDepth 100000
set_option maxHeartbeats 1000000
namespace Z
open PySem L2 PyProof.Rows
/-! sorted of tuples of ints, what each is told beside it -/
theorem map_int_inj : ∀ {a b : List Int}, a.map V.int = b.map V.int → a = b
  | [], [], _ => rfl
  | [], _ :: _, h => by cases h
  | _ :: _, [], h => by cases h
  | x :: a, y :: b, h => by
    rw [List.map_cons, List.map_cons] at h
    injection h with h1 h2
    injection h1 with h1
    rw [h1, map_int_inj h2]
def TIs (K : PySem.W.Frag) (H : Hp) (x : V) (k : List Int) : Prop := ∃ t, x = .ref t ∧ SqT K H t (k.map V.int)
theorem TIs.tk {K : PySem.W.Frag} {H H' : Hp} (e : Tk K H H') {x : V} {k : List Int} (h : TIs K H x k) : TIs K H' x k := by
  obtain ⟨t, rfl, h⟩ := h
  exact ⟨t, rfl, e _ _ h⟩
theorem tis_all {K : PySem.W.Frag} {H H' : Hp} (e : Tk K H H') {xs : List V} {ks : List (List Int)} (h : All2 (TIs K H) xs ks) : All2 (TIs K H') xs ks := h.mono fun _ _ q => q.tk e
def rSortTa (K : PySem.W.Frag) : List V → Hp → VK → Prop := fun vs H Q => ∃ (a : Addr) (xs : List V) (ks : List (List Int)) (d : Nat), vs = [V.ref a] ∧ 1 ≤ d ∧ SqL K H a xs ∧ All2 (TIs K H) xs ks ∧ (∀ k ∈ ks, k.length = d) ∧
  ∀ ys ls p, ls.Perm ks → ls.Pairwise (fun x y => HT.lexLt y x = false) → ys.Perm xs → All2 (TIs K H) ys ls → H p = none → Q (.ref p) (upd H p (.lst ys))
section
variable {X : Cx}
theorem cr_sortTa : CallR X (.builtin "sorted") (rSortTa X.K) := by
  intro pins s σ H vs us Q I r h
  obtain ⟨a, xs, ks, d, rfl, hd, hs, hx, hk, q⟩ := h
  have uniq : ∀ {x : V} {k l : List Int}, TIs X.K H x k → TIs X.K H x l → k = l := fun {x k l} h1 h2 => by
    obtain ⟨t, rfl, h1⟩ := h1
    obtain ⟨t', e, h2⟩ := h2
    cases e
    exact map_int_inj (I.tuple_inj h1 h2)
  let f : V → List Int := fun x => Classical.epsilon fun l => TIs X.K H x l
  have ff : ∀ {x k}, TIs X.K H x k → f x = k := fun {x k} h => uniq (Classical.epsilon_spec (p := fun l => TIs X.K H x l) ⟨k, h⟩) h
  have fm : ∀ {zs : List V} {ls : List (List Int)}, All2 (TIs X.K H) zs ls → zs.map f = ls := fun {zs ls} h => by
    induction h with
    | nil => rfl
    | cons h _ ih => rw [List.map_cons, ih, ff h]
  have e0 := fm hx
  refine cr_sortTk pins s σ H _ us Q I r ⟨a, xs, d, f, rfl, hd, hs, fun x m => ?_, fun ys p h1 h2 h3 => ?_⟩
  · obtain ⟨k, mk, hxk⟩ := hx.mem_l m
    obtain ⟨t, e, ht⟩ := id hxk
    rw [ff hxk]
    exact ⟨t, e, ht, hk k mk⟩
  · refine q ys (ys.map f) p (by rw [← e0]; exact h1.map f) h2 h1 ?_ h3
    have mem : ∀ y ∈ ys, TIs X.K H y (f y) := fun y m => by
      obtain ⟨k, _, hxk⟩ := hx.mem_l (h1.mem_iff.mp m)
      rw [ff hxk]
      exact hxk
    clear h1 h2 h3
    induction ys with
    | nil => exact .nil
    | cons y ys ih => exact .cons (mem y List.mem_cons_self) (ih fun z m => mem z (List.mem_cons_of_mem _ m))
end
theorem s_sortTa {K : PySem.W.Frag} {H : Hp} {Q : VK} {a : Addr} {xs : List V} {ks : List (List Int)} (d : Nat) (hd : 1 ≤ d) (hs : SqL K H a xs) (hx : All2 (TIs K H) xs ks) (hk : ∀ k ∈ ks, k.length = d)
    (q : ∀ ys ls p H', ls.Perm ks → ls.Pairwise (fun x y => HT.lexLt y x = false) → All2 (TIs K H') ys ls → H p = none → Ex H H' → H' p = some (.lst ys) → Q (.ref p) H') : rSortTa K [.ref a] H Q :=
  ⟨a, xs, ks, d, rfl, hd, hs, hx, hk, fun ys ls p h1 h2 _ h4 h3 => q ys ls p _ h1 h2 (tis_all (Ex.new h3).tk h4) h3 (Ex.new h3) upd_same⟩
/-! a written dict -/
theorem s_kix {K : PySem.W.Frag} {w : World} {p : Addr} {z : Str} {v : V} {H : Hp} {Q : VK} (h : KDct K w p z v) (k : Q v H) : rIxD K w (.ref p) (.str z) H Q := ⟨p, z, v, rfl, rfl, h, k⟩
/-- all that stood stands, but what has changed was not there -/
theorem Ex.fr2 {b : Addr} {H H1 H2 : Hp} (e : Ex H H1) (n : H b = none) (f : Fr b H1 H2) : Ex H H2 := fun a o h => f a o (ne_of_none h n) (e a o h)
end Z

set_option Elab.async false
set_option linter.all false
set_option maxRecDepth 100000
set_option maxHeartbeats 1000000
namespace Z
open PySem L2
/-! fields and methods of own instances by steps -/
theorem u65 {k : Nat} {A : Around} (hr : Room k A) : A.units + 65 < cLine := by have := hr.un; omega
theorem u3 {k : Nat} {A : Around} (hr : Room k A) : A.units + 3 < cLine := by have := hr.un; omega

section
variable {K : PySem.W.Frag} {σ : L2.St} {H : Hp} {Q : VK} {nx bk ct : L2.St → Hp → Prop} {rt : VK} {f m : Str} {C a dx : Addr} {fs : List (Str × V)}
theorem s_fldGet {v : V} (h : H a = some (.ins C dx fs)) (c : Cls K C) (na : NoAttr K C f) (e : fs.lookup f = some v) (k : Q v H) : FldR K f (.ref a) H Q := ⟨a, C, dx, fs, v, rfl, h, c, na, e, k⟩
def FldPut (K : PySem.W.Frag) (f : Str) (y x : V) (H : Hp) (R : Hp → Prop) : Prop := ∃ a C dx fs, x = .ref a ∧ H a = some (.ins C dx fs) ∧ Cls K C ∧ NoAttr K C f ∧ fs.length < 1000 ∧ R (upd H a (.ins C dx (putF f y fs)))
theorem s_sFldP {ta tv : TE} (k : tv σ H fun y H1 => ta σ H1 fun x H2 => FldPut K f y x H2 fun H3 => nx σ H3) : sFld K ta tv f ⟨nx, rt, bk, ct⟩ σ H := k
theorem s_fldPut {y : V} {R : Hp → Prop} (gs : List (Str × V)) (h : H a = some (.ins C dx fs)) (c : Cls K C) (na : NoAttr K C f) (z : fs.length < 1000) (e : putF f y fs = gs) (k : ∀ H', Fr a H H' → H' a = some (.ins C dx gs) → R H') : FldPut K f y (.ref a) H R :=
  ⟨a, C, dx, fs, rfl, h, c, na, z, by rw [e]; exact k _ Fr.upd upd_same⟩
theorem s_on {R : Prop} (h : H a = some (.ins C dx fs)) (hm : fs.lookup m = none) (k : R) : ∃ a' dx' fs', V.ref a = .ref a' ∧ H a' = some (.ins C dx' fs') ∧ fs'.lookup m = none ∧ R := ⟨a, dx, fs, rfl, h, hm, k⟩
theorem s_methA {sp : Sp} {dvs : List V} {E : XK} {ta : TE} {t : TA} (k : ta σ H fun x H1 => ∃ a dx fs, x = .ref a ∧ H1 a = some (.ins C dx fs) ∧ fs.lookup m = none ∧ t σ H1 fun vs H2 => sp (x :: (vs ++ dvs)) H2 Q E) : tMeth C m sp dvs E ta t σ H Q := k
end
/-- a new instance: what stood stands -/
theorem ex_made {C x dx : Addr} {H : Hp} (hx : H x = none) (hd : H dx = none) : Ex H (upd (upd H dx (.own x)) x (.ins C dx [])) := fun a o h => by
  have h1 : a ≠ x := ne_of_none h hx
  have h2 : a ≠ dx := ne_of_none h hd
  rw [upd_ne h1, upd_ne h2]
  exact h
end Z

set_option Elab.async false
set_option linter.all false
set_option maxRecDepth 100000
set_option maxHeartbeats 1000000
namespace Z
open PySem PySem.Spec PyProof.Rows L2
section
variable {X : Cx}
/-- name = {k: v for ..} on one line, the name a local -/
theorem ps_setDc {i : Nat} {y : Str} {py : Pos} {kx vx tg iter : Expr} {ifs : List Expr} {scope : Scope} {own : List (Str × Nat)} {pos spos : Pos} {wi : TI} {g : TG} {tt : TT} {tk tv : TE} (hc : X.calm = true) (hN : X.N.Nodup) (hy : X.N[i]? = some y) (hyl : X.env.scope.names.lookup y = some .local)
    (hsw : swapsWith (.DictComp kx vx [⟨tg, iter, ifs, 0⟩] scope pos) (some (.Name y py)) spos.line X.env = pure true) (hi : PI X tg iter wi) (ok : BlkOk X.N X.env.scope scope own)
    (hg : ∀ (s : Shared) (H : Hp) (C : Addr) (cl : List (Str × Addr)) (fp : List Addr), PG (X.blk s H scope (compEnvC scope cl C X.env) fp) tg g) (ht : ∀ (s : Shared) (H : Hp) (C : Addr) (cl : List (Str × Addr)) (fp : List Addr), PTs (X.blk s H scope (compEnvC scope cl C X.env) fp) ifs tt)
    (hk : ∀ (s : Shared) (H : Hp) (C : Addr) (cl : List (Str × Addr)) (fp : List Addr), PE (X.blk s H scope (compEnvC scope cl C X.env) fp) kx tk)
    (he : ∀ (s : Shared) (H : Hp) (C : Addr) (cl : List (Str × Addr)) (fp : List Addr), PE (X.blk s H scope (compEnvC scope cl C X.env) fp) vx tv) (hs : ∀ x, foldedSetIterable iter X.env x = pure x := by intro _; rfl) :
    PS X (.Assign [.Name y py] (.DictComp kx vx [⟨tg, iter, ifs, 0⟩] scope pos) spos) (tAsg (tDc wi g tt tk tv (own.map (·.2))) (gName i)) := by
  refine ⟨fun pins s σ H D I h => ?_⟩
  rw [exec_Assign_Name_used _ _ _ _ hsw]
  refine wpAny_bind (wpAny_standAt (wpAny_bind ?_))
  show wpAny _ X.A (do let _ ← comprehension (.DictComp kx vx [⟨tg, iter, ifs, 0⟩] scope pos) scope X.env (firstIterPos [⟨tg, iter, ifs, 0⟩] pos) newDict false (eval iter X.env) (some (assign (.Name y py) X.env))) _ _ s
  have h : tDc wi g tt tk tv (own.map (·.2)) σ H (fun x H1 => gName i x σ H1 D.nx) := h
  refine wpAny_bind (thn (dc_core (Qf := fun _ s' => SP X pins D .next s') hc hN I hi ok hg ht hk he hs h fun L C s' m H' I' q hn f => ?_) fun _ s' hq => wpAny_pure (wpAny_pure hq))
  show wpAny _ _ (assign (.Name y py) X.env (.ref L)) _ _ _
  refine wpAny_assign_Name (store_ok2 (v := V.ref L) I' hN hy (.inl hyl) rfl (fun s2 I2 ⟨a, sb, ha⟩ => ?_) (.inr hyl))
  obtain ⟨f0, f1, f2, f3, f4, f5⟩ := f
  have haC : C ≠ a := by
    rcases ha with z | z
    · rw [z]; exact f1
    · exact fun e => f4 y a z e.symm
  refine ⟨m, hn.sameBut sb haC, fun h3 sb3 => ?_⟩
  exact ⟨_, H', I2.turned (t' := s2.toks) (fun b o hb e => (sb3.2 b hb).trans e) f0 f1 f3 f4 f5, q⟩
theorem sw_trueD {kx vx : Expr} {gs : List Comprehension} {scope : Scope} {pos py : Pos} {y : Str} {l : Nat} {env : Env} (hk : env.scope.kind = .function) (hy : env.scope.names.lookup y = some .local) (hl : (py.line == pos.line) = true)
    (ha : (scope.names.any fun (n, k) => n == y && (k == .local || k == .cell)) = false) : swapsWith (.DictComp kx vx gs scope pos) (some (.Name y py)) l env = pure true := by
  have ky : env.kindOf y = some .local := hy
  have hb : env.blockKind = .function := by unfold Env.blockKind; rw [hk]; rfl
  unfold swapsWith
  simp only [hb, ky, ha, Expr.pos, hl]
  rfl
end
end Z

set_option Elab.async false
set_option maxRecDepth 100000
set_option maxHeartbeats 4000000
set_option linter.all false
/-! dict(list of pairs), t <= u of two tuples of two ints -/
namespace Z
open PySem L2
abbrev rDictP (K : PySem.W.Frag) : List V → Hp → VK → Prop := fun xs H Q => ∃ (a : Addr) (ps : List Addr) (kvs : List (Key × V)), xs = [.ref a] ∧ SqL K H a (ps.map V.ref) ∧ Paired (fun p kv => SqT K H p [kV kv.1, kv.2]) ps kvs ∧
    ∀ p, H p = none → Q (.ref p) (upd H p (.dK (mergeK [] kvs)))
theorem cr_dictP {X : Cx} (h : X.calm = true) : CallR X (.type "dict") (rDictP X.K) := call_dictP h
theorem s_dictP {K : PySem.W.Frag} {H : Hp} {Q : VK} {a : Addr} {ps : List Addr} {kvs : List (Key × V)} (h : SqL K H a (ps.map V.ref)) (hp : Paired (fun p kv => SqT K H p [kV kv.1, kv.2]) ps kvs)
    (k : ∀ p H', H p = none → Ex H H' → H' p = some (.dK (mergeK [] kvs)) → Q (.ref p) H') : rDictP K [.ref a] H Q := ⟨a, ps, kvs, rfl, h, hp, fun p hn => k p _ hn (Ex.new hn) upd_same⟩
theorem merge_not {k : Key} : ∀ {kvs : List (Key × V)} (acc : List (Key × V)), (∀ p ∈ kvs, p.1 ≠ k) → valV (mergeK acc kvs) k = valV acc k
  | [], acc, _ => rfl
  | p :: r, acc, h => by
    show valV (mergeK (putK acc p.1 p.2) r) k = _
    rw [merge_not (putK acc p.1 p.2) fun q hq => h q (List.mem_cons_of_mem _ hq), valV_put, if_neg fun z => h p List.mem_cons_self z.symm]
theorem merge_val {k : Key} {v : V} : ∀ {kvs : List (Key × V)} (acc : List (Key × V)), (kvs.map (·.1)).Nodup → (k, v) ∈ kvs → valV (mergeK acc kvs) k = some v
  | p :: r, acc, nd, h => by
    rw [List.map_cons] at nd
    obtain ⟨n1, n2⟩ := List.nodup_cons.mp nd
    show valV (mergeK (putK acc p.1 p.2) r) k = _
    rcases List.mem_cons.mp h with h | h
    · subst h
      rw [merge_not _ fun q hq z => n1 (by rw [← z]; exact List.mem_map.mpr ⟨q, hq, rfl⟩), valV_put, if_pos rfl]
    · exact merge_val _ n2 h
theorem s_leT2 {K : PySem.W.Frag} {H : Hp} {Q : VK} {a b : Addr} {p q r s : Int} (ha : SqT K H a [.int p, .int q]) (hb : SqT K H b [.int r, .int s]) (k : Q (.bl (decide (p < r ∨ (p = r ∧ q ≤ s)))) H) : rLeT K (.ref a) (.ref b) H Q := by
  refine ⟨a, b, [p, q], [r, s], rfl, rfl, ha, hb, ?_⟩
  have e : Ob.lexAt (fun j => decide (([p, q] : List Int).getD j 0 = ([r, s] : List Int).getD j 0)) (fun j => decide (([p, q] : List Int).getD j 0 ≤ ([r, s] : List Int).getD j 0)) (decide (([p, q] : List Int).length ≤ ([r, s] : List Int).length)) 0 (min ([p, q] : List Int).length ([r, s] : List Int).length) = decide (p < r ∨ (p = r ∧ q ≤ s)) := by
    show Ob.lexAt _ _ _ 0 2 = _
    rw [Ob.lexAt_succ, Ob.lexAt_succ, Ob.lexAt_zero]
    show (if decide (p = r) = true then (if decide (q = s) = true then true else decide (q ≤ s)) else decide (p ≤ r)) = _
    by_cases h1 : p = r
    · by_cases h2 : q = s
      · simp [h1, h2]
      · rw [if_pos (decide_eq_true h1), if_neg (by simpa using h2)]
        refine decide_eq_decide.mpr ⟨fun z => .inr ⟨h1, z⟩, fun z => ?_⟩
        omega
    · rw [if_neg (by simpa using h1)]
      refine decide_eq_decide.mpr ⟨fun z => ?_, fun z => ?_⟩ <;> omega
  rw [e]
  exact k
end Z

set_option Elab.async false
set_option linter.all false
set_option maxRecDepth 100000
set_option maxHeartbeats 4000000
/-! own exceptions over ValueError and over KeyError whose __init__ says super().__init__ and stores fields -/
namespace PySem
namespace ZEX
open PySem.W PySem.Calls PyProof.Rows PySem.HandSPX
abbrev keTail : List Value := [.type "KeyError", .type "LookupError", .type "Exception", .type "BaseException", .type "object"]
def tailX (b : Bool) : List Value := if b then keTail else veTail
/-- own classes, then the built-in ones of the family -/
def refsX (b : Bool) : List Value → Bool
  | .ref _ :: r => refsX b r
  | l => l == tailX b
theorem refsX_cases (b : Bool) : ∀ l : List Value, refsX b l = true → (∃ c r, l = .ref c :: r ∧ refsX b r = true) ∨ l = tailX b
  | [], e => .inr (beq_iff_eq.mp e)
  | .ref c :: r, e => .inl ⟨c, r, rfl, e⟩
  | .none :: _, e => .inr (beq_iff_eq.mp e)
  | .ellipsis :: _, e => .inr (beq_iff_eq.mp e)
  | .notImplemented :: _, e => .inr (beq_iff_eq.mp e)
  | .bool _ :: _, e => .inr (beq_iff_eq.mp e)
  | .int _ _ :: _, e => .inr (beq_iff_eq.mp e)
  | .float _ _ :: _, e => .inr (beq_iff_eq.mp e)
  | .str _ _ :: _, e => .inr (beq_iff_eq.mp e)
  | .bytes _ _ :: _, e => .inr (beq_iff_eq.mp e)
  | .type _ :: _, e => .inr (beq_iff_eq.mp e)
  | .builtin _ :: _, e => .inr (beq_iff_eq.mp e)
theorem passes_KE (self : Value) : refuseLoop self "__setattr__" keTail = pure () := by kernel_rfl
theorem refsX_nil (b : Bool) : refsX b [] = false := by cases b <;> decide
theorem refsX_pass (b : Bool) (self : Value) : ∀ l : List Value, refsX b l = true → refuseLoop self "__setattr__" l = pure () := by
  intro l
  induction l with
  | nil => intro e; rw [refsX_nil] at e; cases e
  | cons a r ih =>
    intro e
    rcases refsX_cases b (a :: r) e with ⟨c, r', q, h⟩ | q
    · obtain ⟨rfl, rfl⟩ := List.cons.inj q
      rw [refuseLoop_ref]; exact ih h
    · rw [q]
      cases b with
      | false => exact F.store_ValueError.passes self
      | true => exact passes_KE self
theorem refsX_contains (b : Bool) (X : String) : ∀ l : List Value, refsX b l = true → l.contains (.type X) = (tailX b).contains (.type X) := by
  intro l
  induction l with
  | nil => intro e; rw [refsX_nil] at e; cases e
  | cons a r ih =>
    intro e
    rcases refsX_cases b (a :: r) e with ⟨c, r', q, h⟩ | q
    · obtain ⟨rfl, rfl⟩ := List.cons.inj q
      rw [List.contains_cons, ih h]; rfl
    · rw [q]
theorem refsX_ne (b : Bool) {l : List Value} (e : refsX b l = true) : l.isEmpty = false := by
  cases l with
  | nil => rw [refsX_nil] at e; cases e
  | cons _ _ => rfl
def newIdX (b : Bool) : String := if b then "LookupError.__new__" else "ValueError.__new__"
def initIdX (b : Bool) : String := if b then "KeyError.__init__" else "ValueError.__init__"
def baseX (b : Bool) : String := if b then "KeyError" else "ValueError"

/-! ### type.__call__ on such a class -/
section
variable {M : Model} {A : Around} {E : Value → Shared → Prop} {h : Heap} {g : Array GenState} {d : Drawn} {t : Nat} {os : OsState}
variable {nm q : Str} {C N : Addr} {bs bm bmB : List Value} {hdct : Bool} {sn : List Str} {sub : List Value} {ab : Bool} {col : Option Bool} {dd : Option Addr} {k0 k1 k2 k3 k5 : Option Value} {B newId initId : String}
theorem check_newX (F : ExcBaseFacts B newId initId bmB) (hB : bm.contains (.type B) = true) {rest : List Value} {Q : Unit → Shared → Prop}
    (hC : h.get? C = some (excClassObj nm q C N bs bm hdct sn sub ab col dd k0 k1 k2 k3 k5 newId)) (hq : Q () ⟨h, g, d, t, os⟩) : wpAny M A (checkBuiltinCall newId ⟨.ref C :: rest, []⟩) Q E ⟨h, g, d, t, os⟩ := by
  have hcont : (Value.ref C :: bm).contains (.type B) = true := by rw [List.contains_cons, hB, Bool.or_true]
  have hstar := F.noStar
  simp only [checkBuiltinCall, F.newKind, F.newSplit, F.newRow]
  repeat (first | refine wpAny_loadPart_at hC ?_ | (refine wpAny_isSubtype_exc hC ?_; rw [hcont]) | refine wpAny_staticBase_exc hC ?_ | refine wpAny_madeBy_exc hC ?_ | simp only [bne_self_eq_false, Bool.false_eq_true, if_false] | wp_step)
  exact hq
end
section
variable {prog : Program} {w : World} {A : Around} {E : Value → Shared → Prop} {R : Result → Shared → Prop} {h : Heap} {g : Array GenState} {d : Drawn} {t : Nat} {os : OsState}
variable {nm q : Str} {C N : Addr} {bs bm bmB : List Value} {hdct : Bool} {sn : List Str} {sub : List Value} {ab : Bool} {col : Option Bool} {dd : Option Addr} {k0 k1 k2 k3 k5 : Option Value} {B newId initId : String}
theorem newX (F : ExcBaseFacts B newId initId bmB) (hB : bm.contains (.type B) = true) (hA : bm.contains (.type "AttributeError") = false) (hN : bm.contains (.type "NameError") = false) {rest : List Value}
    (hC : h.get? C = some (excClassObj nm q C N bs bm hdct sn sub ab col dd k0 k1 k2 k3 k5 newId))
    (hq : R (.ok (.ret (.ref (h.objs.size + 1)))) ⟨(h.push { cls := .type "tuple", data := .seq rest.toArray }).push
      { cls := .ref C, data := .fields #[.ref h.objs.size, .none, .none, .none, .bool false, .none] }, g, d, t, os⟩) (hrest : rest.length ≤ sizeLine) :
    codeAny (model prog w) A (.builtin newId ⟨.ref C :: rest, []⟩) R ⟨h, g, d, t, os⟩ := by
  have hends := F.ends
  have hcB : (Value.ref C :: bm).contains (.type B) = true := by rw [List.contains_cons, hB, Bool.or_true]
  have hcA : (Value.ref C :: bm).contains (.type "AttributeError") = false := by rw [List.contains_cons, hA]; rfl
  have hcN : (Value.ref C :: bm).contains (.type "NameError") = false := by rw [List.contains_cons, hN]; rfl
  refine codeAny_builtinAt F.entry ?_
  unfold Builtin.«BaseException.__new__»
  refine wpAt_bind ?_
  show wpAt _ _ _ (stack >>= _) _ _ _
  refine wpAt_bind (wpAt_stack fun p below => wpAt_of_wpAny ?_)
  wp_walk
  refine wpAt_of_wpAny ?_
  rw [F.owner]
  repeat (first | with_reducible refine wpAny_madeHere_exc F.canon hC ?_ | with_reducible refine wpAny_loadPart_at hC ?_ | (with_reducible refine wpAny_isSubtype_exc hC ?_; first | rw [hcB] | rw [hcA] | rw [hcN]) | wp_step)
  show R _ _
  rw [Heap.size_push]
  exact hq
theorem type_callX (F : ExcBaseFacts B newId initId bmB) (hB : bm.contains (.type B) = true) (hA : bm.contains (.type "AttributeError") = false) (hN : bm.contains (.type "NameError") = false) {rest : List Value} {fI : Addr} {Q : Fin → Shared → Prop}
    (hC : h.get? C = some (excClassObj nm q C N bs bm hdct sn sub ab col dd k0 k1 k2 k3 k5 newId))
    (hi : W.Looks (model prog w) h (typeLookup (.ref C) "__init__") (some (.ref fI))) (hb : ∀ self, W.Looks (model prog w) h (bindSpecial (.ref fI) self) (.ref fI, [self])) (hrest : rest.length ≤ sizeLine)
    (hq : codeAny (model prog w) A (.call (.ref fI) ⟨.ref (h.objs.size + 1) :: rest, []⟩)
      (fun r s' => match r with | .ok (.ret v) => v = .none ∧ Q (.done (.ret (.ref (h.objs.size + 1)))) s' | .ok _ => False | .error e => E e s')
      ⟨(h.push (W.kdv_tup rest)).push (excO C h.objs.size), g, d, t, os⟩) :
    wpAny (model prog w) A (Builtin.«type.__call__» ⟨.ref C :: rest, []⟩) Q E ⟨h, g, d, t, os⟩ := by
  repeat (first | with_reducible refine wpAny_loadPart_at hC ?_ | with_reducible refine wpAny_madeBy_exc hC ?_ | wp_step)
  refine codeAny_call_builtin_code (Code.quiet_builtin _ F.quiet) (check_newX F hB hC ?_)
  refine newX F hB hA hN hC ?_ hrest
  show wpAny _ _ _ _ _ _
  have k : ∀ b o, h.get? b = some o → ((h.push (W.kdv_tup rest)).push (excO C h.objs.size)).get? b = some o := fun b o e => Heap.get?_push_of_some _ (Heap.get?_push_of_some _ e)
  have hC₁ := k _ _ hC
  have hget : ((h.push (W.kdv_tup rest)).push (excO C h.objs.size)).get? (h.objs.size + 1) = some (excO C h.objs.size) := by heap_get
  have hcC : (Value.ref C :: bm).contains (.ref C) = true := by simp
  have i1 := hi.keeps k
  have b1 := (hb (.ref (h.objs.size + 1))).keeps k
  unfold isInstance
  repeat (first | with_reducible refine wpAny_loadPart_at hget ?_ | (with_reducible refine wpAny_isSubtype_exc hC₁ ?_; rw [hcC]) | wp_step)
  show wpAny _ _ (typeLookup (.ref C) _) _ _ _
  refine i1.at ?_
  refine wpAny_holding (wpAny_bind (b1.at ?_))
  refine wpAny_bind (wpAny_call (codeAny_mono hq fun r s' z => ?_))
  rcases r with e | (v | _ | _ | _) <;> first | exact z | exact z.elim | skip
  obtain ⟨rfl, z⟩ := z
  first
    | exact wpAny_pure (wpAny_pure z)
    | (wp_walk; exact z)
theorem callX (F : ExcBaseFacts B newId initId bmB) (hB : bm.contains (.type B) = true) (hA : bm.contains (.type "AttributeError") = false) (hN : bm.contains (.type "NameError") = false) {rest : List Value} {fI : Addr}
    (hC : h.get? C = some (excClassObj nm q C N bs bm hdct sn sub ab col dd k0 k1 k2 k3 k5 newId))
    (hi : W.Looks (model prog w) h (typeLookup (.ref C) "__init__") (some (.ref fI))) (hb : ∀ self, W.Looks (model prog w) h (bindSpecial (.ref fI) self) (.ref fI, [self])) (hrest : rest.length ≤ sizeLine)
    (hq : codeAny (model prog w) (A.under (.builtin "type.__call__" ⟨.ref C :: rest, []⟩)) (.call (.ref fI) ⟨.ref (h.objs.size + 1) :: rest, []⟩) (W.InitBack (h.objs.size + 1) R)
      ⟨(h.push (W.kdv_tup rest)).push (excO C h.objs.size), g, d, t, os⟩) :
    codeAny (model prog w) A (.call (.ref C) ⟨rest, []⟩) R ⟨h, g, d, t, os⟩ := by
  have f1 := tc_lookup
  have f2 := tc_bind (.ref C)
  have hTy : (⟨h, g, d, t, os⟩ : Shared).TypeIs (.ref C) "type" := ⟨_, hC, rfl⟩
  refine codeAny_of_tree ?_
  show wpAny _ _ (callAny (.ref C) _) _ _ _
  repeat (any_goals (first | assumption | with_reducible refine wpAny_loadPart_at hC ?_ | wp_step))
  refine ⟨rfl, ?_⟩
  refine codeAny_call_builtin_at (Code.quiet_builtin _ (by decide +kernel)) entry_typeCall (wpAny_check_type_call_sub hC (type_callX F hB hA hN hC hi hb hrest ?_))
  refine codeAny_mono hq fun r s' z => ?_
  rcases r with e | (v | _ | _ | _) <;> exact z
theorem callB (b : Bool) (hbm : refsX b bm = true) {rest : List Value} {fI : Addr}
    (hC : h.get? C = some (excClassObj nm q C N bs bm hdct sn sub ab col dd k0 k1 k2 k3 k5 (newIdX b)))
    (hi : W.Looks (model prog w) h (typeLookup (.ref C) "__init__") (some (.ref fI))) (hb : ∀ self, W.Looks (model prog w) h (bindSpecial (.ref fI) self) (.ref fI, [self])) (hrest : rest.length ≤ sizeLine)
    (hq : codeAny (model prog w) (A.under (.builtin "type.__call__" ⟨.ref C :: rest, []⟩)) (.call (.ref fI) ⟨.ref (h.objs.size + 1) :: rest, []⟩) (W.InitBack (h.objs.size + 1) R)
      ⟨(h.push (W.kdv_tup rest)).push (excO C h.objs.size), g, d, t, os⟩) :
    codeAny (model prog w) A (.call (.ref C) ⟨rest, []⟩) R ⟨h, g, d, t, os⟩ := by
  cases b with
  | false => exact callX F.excBase_ValueError ((refsX_contains false _ _ hbm).trans (by decide +kernel)) ((refsX_contains false _ _ hbm).trans (by decide +kernel)) ((refsX_contains false _ _ hbm).trans (by decide +kernel)) hC hi hb hrest hq
  | true => exact callX F.excBase_LookupError ((refsX_contains true _ _ hbm).trans (by decide +kernel)) ((refsX_contains true _ _ hbm).trans (by decide +kernel)) ((refsX_contains true _ _ hbm).trans (by decide +kernel)) hC hi hb hrest hq
end

/-! ### super().__init__(..): the built-in one -/
theorem kxs_KeyError : KxsFacts "KeyError" "KeyError.__init__" := ⟨by show builtinType _ = _; rw [builtinType_eq_fast]; kernel_rfl, by first | kernel_rfl | rfl⟩
theorem kxsX (b : Bool) : KxsFacts (baseX b) (initIdX b) := by
  cases b with
  | false => exact kxs_ValueError
  | true => exact kxs_KeyError
section
variable {M : Model} {A : Around} {E : Value → Shared → Prop} {h : Heap} {g : Array GenState} {d : Drawn} {t : Nat} {os : OsState}
variable {nm q : Str} {C N : Addr} {bs bm bmB : List Value} {hdct : Bool} {sn : List Str} {sub : List Value} {ab : Bool} {col : Option Bool} {dd : Option Addr} {k0 k1 k2 k3 k5 : Option Value} {newId cls initId : String}
theorem check_bX {e : Addr} {oe : Obj} {rest : List Value} {Q : Unit → Shared → Prop} (nS : (cls != "*") = true) (iK : builtinKind initId = some .slot) (iR : Manifest.signature? initId = some ⟨.positional, "*", cls, .self, [⟨"args", .varPos, false⟩]⟩)
    (hC : h.get? C = some (excClassObj nm q C N bs bm hdct sn sub ab col dd k0 k1 k2 k3 k5 newId)) (he : h.get? e = some oe) (hcls : oe.cls = .ref C) (hq : Q () ⟨h, g, d, t, os⟩) : wpAny M A (checkBoundCall initId ⟨.ref e :: rest, []⟩) Q E ⟨h, g, d, t, os⟩ := by
  have hshort := nS
  simp only [checkBoundCall, iK, iR]
  repeat (first | (with_reducible refine wpAny_loadPart_at he ?_; rw [hcls]) | with_reducible refine wpAny_loadPart_at hC ?_ | wp_step)
  refine wpAny_onRaise ?_
  rw [show ∀ (a b : String) (n : Nat), Bind.check ⟨.positional, "*", cls, .self, [⟨"args", .varPos, false⟩]⟩ a b n (List.map (fun x => x.fst) ({ pos := Value.ref e :: rest } : Args).kw) = pure () from
    fun a b n => check_star_args _ _ _ _ _ _]
  exact wpAny_pure hq
end
section
variable {prog : Program} {w : World} {A : Around} {E : Value → Shared → Prop} {h : Heap} {g : Array GenState} {d : Drawn} {t : Nat} {os : OsState}
variable {nm q : Str} {C N : Addr} {bs bm : List Value} {hdct : Bool} {sn : List Str} {sub : List Value} {ab : Bool} {col : Option Bool} {dd : Option Addr} {k0 k1 k2 k3 k5 : Option Value} {newId : String}
theorem super_callG {initId cls : String} {u e t0 : Addr} {rest : List Value} {Q : Value → Shared → Prop} (nS : (cls != "*") = true) (iK : builtinKind initId = some .slot) (iR : Manifest.signature? initId = some ⟨.positional, "*", cls, .self, [⟨"args", .varPos, false⟩]⟩)
    (pl : plainId initId = true) (en : entryFor table initId = some Builtin.«BaseException.__init__»)
    (hC : h.get? C = some (excClassObj nm q C N bs bm hdct sn sub ab col dd k0 k1 k2 k3 k5 newId)) (he : h.get? e = some (excO C t0)) (hu : h.get? u = some (kxs_mw initId e)) (hrest : rest.length ≤ sizeLine)
    (hq : ∀ h' t1, (∀ b o, b ≠ e → h.get? b = some o → h'.get? b = some o) → h'.get? e = some (excO C t1) → Q .none ⟨h', g, d, t, os⟩) :
    wpAny (model prog w) A (call (.ref u) rest) Q E ⟨h, g, d, t, os⟩ := by
  refine wpAny_call (codeAny_of_tree ?_)
  show wpAny _ A.in1 (callAny (.ref u) ⟨rest, []⟩) _ _ _
  simp only [callAny]
  refine wpAny_bind (wpAny_load hu ?_)
  simp only [kxs_mw, show (Value.type "method-wrapper" == Value.type "method" || Value.type "method-wrapper" == Value.type "builtin_function_or_method" || Value.type "method-wrapper" == Value.type "method-wrapper") = true by decide, if_true]
  refine W.KFB.if_so (by decide) ?_
  refine wpAny_bind (check_bX nS iK iR hC he rfl ?_)
  refine wpAny_bind (wpAny_pure (wpAny_pure ?_))
  refine ⟨plainId_quiet pl _, codeAny_builtin en ?_⟩
  rw [Around.under_plainId pl _]
  exact exc_init_tree (cls := .ref C) (t0 := t0) (dv := none) (c2 := .none) (c3 := .none) (b4 := .bool false) he hrest fun h' k e' _ => hq h' _ k e'
theorem super_call (b : Bool) {u e t0 : Addr} {rest : List Value} {Q : Value → Shared → Prop}
    (hC : h.get? C = some (excClassObj nm q C N bs bm hdct sn sub ab col dd k0 k1 k2 k3 k5 newId)) (he : h.get? e = some (excO C t0)) (hu : h.get? u = some (kxs_mw (initIdX b) e)) (hrest : rest.length ≤ sizeLine)
    (hq : ∀ h' t1, (∀ b o, b ≠ e → h.get? b = some o → h'.get? b = some o) → h'.get? e = some (excO C t1) → Q .none ⟨h', g, d, t, os⟩) :
    wpAny (model prog w) A (call (.ref u) rest) Q E ⟨h, g, d, t, os⟩ := by
  cases b with
  | false =>
    rw [show initIdX false = "ValueError.__init__" from rfl] at hu
    exact super_callG F.excBase_ValueError.noStar F.excBase_ValueError.initKind F.excBase_ValueError.initRow F.excBase_ValueError.init.plain F.excBase_ValueError.initEntry hC he hu hrest hq
  | true =>
    rw [show initIdX true = "KeyError.__init__" from rfl] at hu
    exact super_callG excClass_KeyError.notStar excClass_KeyError.initKind excClass_KeyError.initSig excClass_KeyError.init.plain excClass_KeyError.initEntry hC he hu hrest hq
end
end ZEX
end PySem

set_option Elab.async false
set_option linter.all false
set_option maxRecDepth 100000
set_option maxHeartbeats 4000000
namespace PySem
namespace ZEX
open PySem.W PySem.Calls PyProof.Rows PySem.HandSPX
section
open Builtin Builtin.ObjectAttr
variable {prog : Program} {w : World} {A : Around} {E : Value → Shared → Prop} {R : Result → Shared → Prop} {hp : Heap} {g : Array GenState} {d : Drawn} {t : Nat} {os : OsState}
/-- self.name = v on an exception of the family: the walk to the own dict -/
theorem osaX {K : W.Frag} {b : Bool} {name : Str} {tk : Tok} {v : Value} {x C : Addr} {ox : Obj} {od : Option Obj} {cd : ClassData}
    (X : K.In hp) (I : W.InstAt hp x ox C od) (hcd : W.clsIn K C = some cd) (hm : refsX b cd.mro = true) (ha : W.findIn K (.ref C) name = some none)
    (hq : wpAny (model prog w) A.in1 (storeInOwnDict (.ref x) (.ref C) (.str name tk) name v false)
      (fun fin s' => match fin with | .done f => R (.ok f) s' | .again c' => c'.quiet = true ∧ codeAny (model prog w) A c' R s') (fun e s' => R (.error e) s') ⟨hp, g, d, t, os⟩) :
    codeAny (model prog w) A (.call (.builtin "object.__setattr__") ⟨[.ref x, .str name tk, v], []⟩) R ⟨hp, g, d, t, os⟩ := by
  have SF := F.store_object
  have ne := refsX_ne b hm
  have hob : cd.mro.contains (.type "object") = true := (refsX_contains b "object" _ hm).trans (by cases b <;> decide +kernel)
  have sub : W.Looks (model prog w) hp (isInstance (.ref x) (.type "object")) true := I.type.andThen (W.looks_mroIn X (by unfold W.mroIn; rw [hcd, Option.bind_some, if_neg (by rw [ne]; decide), hob]))
  refine codeAny_call_builtin SF.slot.plain SF.entry (@W.check_slot (model prog w) _ _ ⟨hp, g, d, t, os⟩ "object.__setattr__" "object" "__setattr__" (.ref x) [.str name tk, v] [] _ SF.kind SF.split sub (SF.args (.ref x) (.str name tk) v) ?_)
  have hmr : W.Looks (model prog w) hp (mroOf (.ref C)) cd.mro := (W.looks_clsIn X hcd).andThen .now
  have L3 : W.Looks (model prog w) hp (storeTaker? none) none := .now
  rw [W.osa_eq, refuse_eq]
  refine wpAny_bind (wpAny_bind (I.type.at (wpAny_bind (hmr.at ?_))))
  rw [refsX_pass b _ _ hm]
  refine wpAny_pure (wpAny_bind (I.type.at (wpAny_bind ((W.looks_findIn X ha).at (wpAny_bind (L3.at ?_))))))
  exact hq
theorem osaX_new {K : W.Frag} {b : Bool} {name : Str} {tk : Tok} {v : Value} {x C : Addr} {fv : Array Value} {cd : ClassData}
    (X : K.In hp) (hx : hp.get? x = some { cls := .ref C, data := .fields fv }) (hcd : W.clsIn K C = some cd) (hm : refsX b cd.mro = true) (hh : cd.hasDict = true) (ha : W.findIn K (.ref C) name = some none)
    (hq : ∀ h' tk' dx, (∀ b o, b ≠ x → hp.get? b = some o → h'.get? b = some o) → hp.objs.size ≤ dx → dx ≠ x → h'.get? x = some { cls := .ref C, dict := some dx, data := .fields fv } →
      h'.Ns1 dx (fun y => if y = name then some v else none) → R (.ok (.ret .none)) ⟨h', g, d, tk', os⟩) :
    codeAny (model prog w) A (.call (.builtin "object.__setattr__") ⟨[.ref x, .str name tk, v], []⟩) R ⟨hp, g, d, t, os⟩ := by
  have I : W.InstAt hp x { cls := .ref C, data := .fields fv } C none := ⟨hx, rfl, rfl, trivial⟩
  have hxs : x ≠ hp.objs.size := Nat.ne_of_lt (Heap.lt_size hx)
  refine osaX X I hcd hm ha ?_
  have hcls : W.Looks (model prog w) hp (classData C) cd := W.looks_clsIn X hcd
  obtain ⟨nm, bs, mro, ns, qn, hd, sn, sb, ab, col, del⟩ := cd
  dsimp only at hh
  subst hh
  unfold storeInOwnDict ownDictForStores
  repeat (first | with_reducible refine HandSPX.store_in_new ?_ ?_ | with_reducible refine wpAny_loadPart_at hx ?_ | with_reducible refine hcls.at ?_ | wp_step)
  · exact ⟨_, #[], _, (Heap.get?_update_ne _ _ _ _ hxs.symm).trans (Heap.get?_push_at rfl rfl), rfl, fun e he => absurd he (by simp), fun _ => rfl⟩
  · intro h' tk' hn' hs
    have hx₁ : (hp.push { cls := .type "dict", data := .dict #[] }).get? x = some { cls := .ref C, data := .fields fv } := Heap.get?_push_of_some _ hx
    refine hq h' tk' hp.objs.size (fun b o hb ho => ?_) (Nat.le_refl _) hxs.symm ?_ hn'
    · exact (hs.2 b (Nat.ne_of_lt (Heap.lt_size ho))).trans ((Heap.get?_update_ne _ _ _ _ hb).trans (Heap.get?_push_of_some _ ho))
    · exact (hs.2 x hxs).trans (Heap.get?_update_self _ hx₁ rfl)
theorem osaX_old {K : W.Frag} {b : Bool} {name : Str} {tk : Tok} {v : Value} {x C dx : Addr} {fv : Array Value} {cd : ClassData} {m0 : Str → Option Value} {nl : List Str}
    (X : K.In hp) (hx : hp.get? x = some { cls := .ref C, dict := some dx, data := .fields fv }) (hns : hp.Ns1 dx m0) (hw : Within m0 nl) (hz : nl.length ≤ 1000) (hcd : W.clsIn K C = some cd) (hm : refsX b cd.mro = true) (hh : cd.hasDict = true)
    (ha : W.findIn K (.ref C) name = some none)
    (hq : ∀ h' tk', (∀ b o, b ≠ dx → hp.get? b = some o → h'.get? b = some o) → h'.Ns1 dx (fun y => if y = name then some v else m0 y) → R (.ok (.ret .none)) ⟨h', g, d, tk', os⟩) :
    codeAny (model prog w) A (.call (.builtin "object.__setattr__") ⟨[.ref x, .str name tk, v], []⟩) R ⟨hp, g, d, t, os⟩ := by
  obtain ⟨oD, esD, epD, hoD, hdD, _⟩ := hns.count hw
  have I : W.InstAt hp x { cls := .ref C, dict := some dx, data := .fields fv } C (some oD) := ⟨hx, rfl, rfl, hoD⟩
  refine osaX X I hcd hm ha ?_
  have hcls : W.Looks (model prog w) hp (classData C) cd := W.looks_clsIn X hcd
  obtain ⟨nm, bs, mro, ns, qn, hd, sn, sb, ab, col, del⟩ := cd
  dsimp only at hh
  subst hh
  unfold storeInOwnDict ownDictForStores
  repeat (first | with_reducible refine OEX.store_in_old hns hw hz ?_ | with_reducible refine wpAny_loadPart_at hx ?_ | with_reducible refine hcls.at ?_ | wp_step)
  intro h' tk' hn' hs
  exact hq h' tk' (fun b o hb ho => (hs.2 b hb).trans ho) hn'
end
/-! ### e.__class__, C.__name__ -/
section
variable {prog : Program} {w : World} {A : Around} {E : Value → Shared → Prop} {s : Shared} {K : Frag} {x C : Addr} {ox : Obj} {od : Option Obj}
theorem class_getE {gt : Option Value} {expr : Bool} {Q : Value → Shared → Prop} (X : K.In s.heap) (I : InstAt s.heap x ox C od) (hga : findIn K (.ref C) "__getattribute__" = some (some (.builtin "BaseException.__getattribute__"))) (hgt : findIn K (.ref C) "__getattr__" = some gt)
    (hsub : subIn K (.ref C) (.type "BaseException") = some true) (hf : findObj K C od "__class__" = some (.bind (.builtin "getset_descriptor.__get__") (.builtin "object.__class__"))) (hm : mroIn K C (.type "object") = some true)
    (h : Q (.ref C) { s with toks := s.toks + 1 }) : wpAny (model prog w) A (getAttr (.ref x) "__class__" expr) Q E s := by
  obtain ⟨hp, g, d, t, os⟩ := s
  have L0 := I.type (M := model prog w)
  have L1 := looks_findIn (M := model prog w) X hga
  have L2 := looks_findIn (M := model prog w) X hgt
  have L3 := looks_find (M := model prog w) X I hf
  have sub : Looks (model prog w) hp (isInstance (.ref x) (.type "BaseException")) true := L0.andThen (looks_subIn X hsub)
  have hx0 : (expr && onTheHeap (Value.builtin "BaseException.__getattribute__")) = false := by cases expr <;> rfl
  have hx2 : (Value.builtin "BaseException.__getattribute__" == Value.builtin "object.__getattribute__") = false := by decide +kernel
  have hx1 : (onTheHeap (Value.ref C) && Value.builtin "BaseException.__getattribute__" == Value.builtin "object.__getattribute__") = false := by rw [hx2]; rfl
  unfold getAttr getAttrBy
  refine wpAny_bind (wpAny_mkText (wpAny_holding (wpAny_bind (L0.at (wpAny_bind (L1.at ?_))))))
  show wpAny _ _ (if (onTheHeap (Value.ref C) && Value.builtin "BaseException.__getattribute__" == Value.builtin "object.__getattribute__") = true then _ else _) _ _ _
  rw [hx1, if_neg Bool.false_ne_true]
  unfold getAttrByItsOwn hookBefore
  refine wpAny_bind ?_
  rw [if_pos (show onTheHeap (Value.ref C) = true from rfl)]
  refine L2.at ?_
  refine wpAny_bind (wpAny_attempt (wpAny_holding ?_))
  unfold callGetattribute
  rw [hx0, if_neg Bool.false_ne_true]
  unfold boundAndCalled
  rw [PySem.F.excAttr_ValueError.ga.bind (.ref x)]
  refine wpAny_bind (wpAny_pure ?_)
  show wpAny _ _ (call (.builtin "BaseException.__getattribute__") [.ref x, .str "__class__" t]) _ _ _
  refine wpAny_call (codeAny_call_builtin PySem.F.excAttr_ValueError.ga.plain PySem.F.entry_bexc_ga ?_)
  refine @PySem.W.check_slot (model prog w) _ _ ⟨hp, g, d, t + 1, os⟩ "BaseException.__getattribute__" "BaseException" "__getattribute__" (.ref x) [.str "__class__" t] [] _ (by decide +kernel) (by decide +kernel) sub (PySem.F.args_bexc_ga (.ref x) (.str "__class__" t)) ?_
  unfold Builtin.«object.__getattribute__»
  refine wpAny_bind (wpAny_of_eq (a := ((Value.ref x : Value), [Value.str "__class__" t])) (by first | rfl | (simp only [slotArgs]; rfl)) ?_)
  refine wpAny_bind (wpAny_pure (wpAny_bind (L0.at (wpAny_bind (L3.at ?_)))))
  refine wpAny_bind (wpAny_holding (wpAny_call (class_get (s := ⟨hp, g, d, t + 1, os⟩) (ox := ox) (od := od) X I hm ?_)))
  refine wpAny_pure ?_
  show wpAny _ _ (handedOut (.ref C)) _ _ _
  rw [handedOut_of (show handedIn (.ref C) = true from rfl)]
  first | exact wpAny_pure h | exact wpAny_pure (wpAny_pure h)
end
section
open Builtin Builtin.ObjectAttr Builtin.Getset_descriptor
variable {prog : Program} {w : World} {A : Around} {E : Value → Shared → Prop} {s : Shared} {K : Frag} {C : Addr} {R : Result → Shared → Prop}
/-- what stands in a class's place of its name -/
def nameIn (K : Frag) (C : Addr) : Option Value := match K.lookup C with
  | some o => (o.slots[2]?).join
  | none => none
theorem name_get {tp v : Value} (X : K.In s.heap) (ht : typeIn K (.ref C) = some (.type "type")) (hn : nameIn K C = some v) (h : R (.ok (.ret v)) s) :
    codeAny (model prog w) A (.call (.builtin "getset_descriptor.__get__") ⟨[.builtin "type.__name__", .ref C, tp], []⟩) R s := by
  obtain ⟨o, ho, hs⟩ : ∃ o, K.lookup C = some o ∧ (o.slots[2]?).join = some v := by
    unfold nameIn at hn
    split at hn
    · rename_i o e
      exact ⟨o, e, hn⟩
    · cases hn
  have hC := X _ _ ho
  obtain ⟨hh, g, dr, t, os⟩ := s
  have L0 : Looks (model prog w) hh (typeOf (.ref C)) (.type "type") := looks_typeIn X ht
  have L1 : Looks (model prog w) hh (isSubtype (.type "type") (.type "type")) true := Looks.of_pure (by rw [isSubtype_type]; kernel_rfl)
  refine codeAny_call_builtin KF.slot_gs.plain KF.entry_gs (KF.slot_gs.check _ _ _ _ _ _ _ _ ktyn_type (KF.args_gs _ _ _) ?_)
  unfold Builtin.«getset_descriptor.__get__» descrGet
  rw [dga_obj]
  refine wpAny_bind (wpAny_pure ?_)
  unfold descrGetter descrCheckInstance descrNameAndClass isInstance
  simp only [ktyn_owner]
  repeat lk
  refine ⟨Code.quiet_builtin _ (by decide +kernel), codeAny_builtin ktyn_entry ?_⟩
  unfold Builtin.«type.__name__» keptObject slotAt
  dsimp only
  refine wpAny_bind (wpAny_bind (wpAny_loadPart hC (wpAny_pure ?_)))
  rw [hs]
  exact wpAny_pure h
theorem cls_name {expr : Bool} {v : Value} {Q : Value → Shared → Prop} (X : K.In s.heap) (ho : nsIn K cStatics "thirdparty.any" = some none) (ht : typeIn K (.ref C) = some (.type "type"))
    (e : findCls K (.ref C) (.type "type") "__name__" = some (.get (.builtin "getset_descriptor.__get__") (.builtin "type.__name__") (.ref C) (.type "type"))) (hn : nameIn K C = some v) (hh : handedIn v = true)
    (h : ∀ u, Q v { s with toks := u }) : wpAny (model prog w) A (getAttr (.ref C) "__name__" expr) Q E s := by
  have hg : findIn K (.type "type") "__getattribute__" = some (some (.builtin "type.__getattribute__")) := type_tga
  refine cls_open X (looks_opaque X ho) (looks_typeIn X ht) hg (looks_hook X (r := none) (by rfl)) (by show subIn K _ _ = _; rfl) e ?_
  show wpAny _ _ (do ret (← holding [Value.builtin "type.__name__"] (call (.builtin "getset_descriptor.__get__") [.builtin "type.__name__", .ref C, .type "type"]))) _ _ _
  refine wpAny_bind (wpAny_holding (wpAny_call (name_get (s := { s with toks := s.toks + 1 }) X ht hn ?_)))
  exact wpAny_pure (handed_on hh (h _))
end
end ZEX
end PySem

set_option Elab.async false
set_option linter.all false
set_option maxRecDepth 100000
set_option maxHeartbeats 4000000
namespace L2
open PySem PySem.Spec PySem.Calls PyProof.Rows NdefX ClX
/-- what the written part says of an own exception class of the family b -/
structure OxC (K : PySem.W.Frag) (b : Bool) (C : Addr) : Prop where
  cls : ∃ nm q N bs bm sn sub ab col dd k0 k1 k2 k3 k5, K.lookup C = some (excClassObj nm q C N bs bm true sn sub ab col dd k0 k1 k2 k3 k5 (PySem.ZEX.newIdX b)) ∧ PySem.ZEX.refsX b bm = true
  sa : PySem.W.findIn K (.ref C) "__setattr__" = some (some (.builtin "object.__setattr__"))
  exC : PySem.W.subIn K (.ref C) (.type "BaseException") = some true
  tyC : PySem.W.typeIn K (.ref C) = some (.type "type")
  kC : PySem.W.keepIn K (.ref C) = true
/-- what of it its own name wants -/
structure NmC (K : PySem.W.Frag) (C : Addr) (nm : Str) : Prop where
  ga : PySem.W.findIn K (.ref C) "__getattribute__" = some (some (.builtin "BaseException.__getattribute__"))
  gg : PySem.W.findIn K (.ref C) "__getattr__" = some none
  exC : PySem.W.subIn K (.ref C) (.type "BaseException") = some true
  ic : PySem.W.isClsIn K C = true
  ca : PySem.W.findIn K (.ref C) "__class__" = some (some (.builtin "object.__class__"))
  sp : PySem.W.specialIn K (.builtin "object.__class__") "__get__" = some (some (.builtin "getset_descriptor.__get__"))
  tk : PySem.W.takesIn K (.builtin "object.__class__") = some true
  ob : PySem.W.mroIn K C (.type "object") = some true
  st : PySem.W.nsIn K cStatics "thirdparty.any" = some none
  ty : PySem.W.typeIn K (.ref C) = some (.type "type")
  cn : PySem.W.findCls K (.ref C) (.type "type") "__name__" = some (.get (.builtin "getset_descriptor.__get__") (.builtin "type.__name__") (.ref C) (.type "type"))
  nm : ∃ t, PySem.ZEX.nameIn K C = some (.str nm t)
section
variable {X : Cx} {pins : List (Addr × Obj)} {σ : St} {H : Hp} {s : Shared} {a C dx : Addr} {b : Bool} {f : Str} {y : V} {u : Value} {fs : List (Str × V)} {Q : Unit → Shared → Prop} {E : Value → Shared → Prop} {A : Around}
/-- self.f = y, the first one -/
theorem ostX_new (T : OxC X.K b C) (I : Inv X pins σ H s) (e : H a = some (exo a C none)) (hno : PySem.W.findIn X.K (.ref C) f = some none) (ry : RelV y u)
    (h : ∀ dx s', H dx = none → dx ≠ a → Inv X pins σ (upd (upd H dx (exd dx [(f, y)])) a (exo a C (some dx))) s' → Q () s') : wpAny (model X.prog X.w) A (setAttr (.ref a) f u) Q E s := by
  obtain ⟨nm, q, N, bs, bm, sn, sub, ab, col, dd, k0, k1, k2, k3, k5, hC, hbm⟩ := T.cls
  have hcl : PySem.W.clsIn X.K C = some { name := nm, bases := bs, mro := .ref C :: bm, ns := N, qualname := q, hasDict := true, slotNames := sn, subclasses := sub, abstract := ab, collection := col, hasDel := false } := by unfold PySem.W.clsIn; rw [hC] <;> rfl
  obtain ⟨t1, ho⟩ := exo_at I.hok e
  obtain ⟨hp, g, d, t, os⟩ := s
  refine PySem.W.set_plain I.kIn (ox := { cls := .ref C, dict := none, data := .fields #[.ref t1, .none, .none, .none, .bool false, .none] }) (od := none) ⟨ho, rfl, rfl, trivial⟩ T.sa ?_
  refine PySem.ZEX.osaX_new (b := b) I.kIn ho hcl (show PySem.ZEX.refsX b (.ref C :: bm) = true from hbm) rfl hno (fun h' tk' dx k dn dne hx hn => ?_)
  have hnd : H dx = none := I.hok.fresh dn
  have nd : ∀ {b : Addr} {o : Obj}, hp.get? b = some o → b ≠ dx := fun {b o} q => Nat.ne_of_lt (Nat.lt_of_lt_of_le (Heap.lt_size q) dn)
  have na : ∀ {b : Addr}, H b = none → b ≠ a := fun {b} n z => by
    rw [z, e] at n
    cases n
  have Un1 : Un X.fs [] H (upd (upd H dx (exd dx [(f, y)])) a (exo a C (some dx))) hp h' := {
    keep := fun b o q n _ _ => k b o (na n) q
    slot := fun b o q n _ _ => ⟨o.slots, k b o (na n) q⟩
    free := fun b o q n _ => by rw [upd_ne (na n), upd_ne (nd q)]; exact n
    there := fun b o q _ => by
      by_cases hb : b = a
      · exact ⟨_, by rw [hb]; exact hx⟩
      · exact ⟨o, k b o hb q⟩
    tups := fun b xs q => by rw [upd_ne (at_ne e q exo_tup), upd_ne (ne_of_none q hnd)]; exact q
    frzs := fun b o v q => by rw [upd_ne (at_ne e q exo_frz), upd_ne (ne_of_none q hnd)]; exact q
    tbls := fun b ps q => ⟨#[], by rw [upd_ne (at_ne e q exo_tbl), upd_ne (ne_of_none q hnd), q]; simp⟩ }
  refine h dx _ hnd dne (I.un (t' := tk') Un1 fun b o q => ?_)
  by_cases hb : b = a
  · subst hb
    rw [upd_same] at q
    cases q
    exact exo_ok hx
  · rw [upd_ne hb] at q
    by_cases hd : b = dx
    · subst hd
      rw [upd_same] at q
      cases q
      exact exd_ok hn (relO_put (fs := []) ry fun g => True.intro)
    · rw [upd_ne hd] at q
      exact (I.hok b o q).stay (fun c v hc z => k c v (by
          rcases hc with hc | hc
          · rw [hc]
            exact hb
          · exact at_ne e hc exo_own) z)
        (fun c hc => by rw [upd_ne (at_ne e hc exo_own), upd_ne (ne_of_none hc hnd)]; exact hc) (fun c xs hc => by rw [upd_ne (at_ne e hc exo_tup), upd_ne (ne_of_none hc hnd)]; exact hc)
/-- self.f = y, a further one -/
theorem ostX_old (T : OxC X.K b C) (I : Inv X pins σ H s) (e : H a = some (exo a C (some dx))) (ed : H dx = some (exd dx fs)) (hl : fs.length ≤ 900) (hno : PySem.W.findIn X.K (.ref C) f = some none) (ry : RelV y u)
    (h : ∀ s', Inv X pins σ (upd H dx (exd dx ((f, y) :: fs))) s' → Q () s') : wpAny (model X.prog X.w) A (setAttr (.ref a) f u) Q E s := by
  obtain ⟨nm, q, N, bs, bm, sn, sub, ab, col, dd, k0, k1, k2, k3, k5, hC, hbm⟩ := T.cls
  have hcl : PySem.W.clsIn X.K C = some { name := nm, bases := bs, mro := .ref C :: bm, ns := N, qualname := q, hasDict := true, slotNames := sn, subclasses := sub, abstract := ab, collection := col, hasDel := false } := by unfold PySem.W.clsIn; rw [hC] <;> rfl
  obtain ⟨t1, ho⟩ := exo_at I.hok e
  obtain ⟨mA, hns, rel⟩ := exd_at I.hok ed
  have hw := within_of rel
  obtain ⟨hp, g, d, t, os⟩ := s
  obtain ⟨oD, _, _, hoD, _, _⟩ := hns.count hw
  refine PySem.W.set_plain I.kIn (ox := { cls := .ref C, dict := some dx, data := .fields #[.ref t1, .none, .none, .none, .bool false, .none] }) (od := some oD) ⟨ho, rfl, rfl, hoD⟩ T.sa ?_
  refine PySem.ZEX.osaX_old (b := b) I.kIn ho hns hw (by rw [List.length_map]; omega) hcl (show PySem.ZEX.refsX b (.ref C :: bm) = true from hbm) rfl hno (fun h' tk' k hn => ?_)
  have hd : ∃ o, h'.get? dx = some o := by
    obtain ⟨o, _, _, e', _⟩ := hn
    exact ⟨o, e'⟩
  exact h _ (I.write (t' := tk') (x := dx) (e := dx) (o := exd dx ((f, y) :: fs)) (by rw [ed]; exact True.intro) (.inl rfl) k hd (exd_ok hn (relO_put ry rel)))
end
/-! ### readings and rules -/
/-- self.f = e -/
def tOsX (K : PySem.W.Frag) (f : Str) (to te : TE) : TS := fun D σ H => te σ H fun y H1 => to σ H1 fun x H2 => ∃ (a C : Addr) (b : Bool), x = .ref a ∧ OxC K b C ∧ PySem.W.findIn K (.ref C) f = some none ∧
  ((H2 a = some (exo a C none) ∧ ∀ dx, H2 dx = none → dx ≠ a → D.nx σ (upd (upd H2 dx (exd dx [(f, y)])) a (exo a C (some dx)))) ∨
    ∃ (dx : Addr) (fs : List (Str × V)), H2 a = some (exo a C (some dx)) ∧ H2 dx = some (exd dx fs) ∧ fs.length ≤ 900 ∧ D.nx σ (upd H2 dx (exd dx ((f, y) :: fs))))
/-- e.__class__.__name__ of an exception that is being made -/
def tCnm (K : PySem.W.Frag) (to : TE) : TE := fun σ H Q => to σ H fun x H1 => ∃ (a C : Addr) (nm : Str), x = .ref a ∧ H1 a = some (exo a C none) ∧ NmC K C nm ∧ Q (.str nm) H1
section
variable {X : Cx} {o e : Expr} {es : List Expr} {to te : TE} {ta : TA} {f : Str} {p p' p1 p2 pos : Pos}
theorem ps_osX (ho : PE X o to) (he : PE X e te) (hs : swapsWith e (some (.Attribute o f p')) pos.line X.env = pure false := by rfl) : PS X (.Assign [.Attribute o f p'] e pos) (tOsX X.K f to te) := by
  refine ⟨fun pins s σ H D I h => ?_⟩
  refine plainObj_wpAny_Assign_Attribute (thn (he.run pins s σ H _ I h) fun v s1 ⟨y, H1, I1, r1, q1⟩ => thn (ho.run pins s1 σ H1 _ I1 q1) fun u s2 ⟨x, H2, I2, r2, a, C, b, ex, T, hno, q⟩ => ?_) hs
  subst ex
  obtain rfl : u = Value.ref a := r2
  rcases q with ⟨ea, q⟩ | ⟨dx, fs, ea, ed, hl, q⟩
  · exact ostX_new T I2 ea hno r1 fun dx s' n ne J => ⟨σ, _, J, q dx n ne⟩
  · exact ostX_old T I2 ea ed hl hno r1 fun s' J => ⟨σ, _, J, q⟩
theorem pe_cnm (ho : PE X o to) (hb1 : attributeBase o "__class__" X.env (eval o X.env) = eval o X.env := by rfl)
    (hb2 : attributeBase (.Attribute o "__class__" p1) "__name__" X.env (eval (.Attribute o "__class__" p1) X.env) = eval (.Attribute o "__class__" p1) X.env := by rfl) :
    PE X (.Attribute (.Attribute o "__class__" p1) "__name__" p2) (tCnm X.K to) := by
  refine ⟨fun pins s σ H Q I h => ?_⟩
  refine attr_of hb2 (attr_of hb1 (thn (ho.run pins s σ H _ I h) fun u s1 ⟨x, H1, I1, r1, a, C, nm, ex, ea, T, q⟩ => ?_))
  subst ex
  obtain rfl : u = Value.ref a := r1
  obtain ⟨t1, hoe⟩ := exo_at I1.hok ea
  have J : PySem.W.InstAt s1.heap a ({ cls := .ref C, dict := none, data := .fields #[.ref t1, .none, .none, .none, .bool false, .none] } : Obj) C none := ⟨hoe, rfl, rfl, trivial⟩
  refine PySem.ZEX.class_getE I1.kIn J T.ga T.gg T.exC (PySem.W.findObj_dataE T.ic T.ca T.sp T.tk) T.ob ?_
  obtain ⟨tn, hn⟩ := T.nm
  refine PySem.ZEX.cls_name (s := { s1 with toks := s1.toks + 1 }) (I1.tok _).kIn T.st T.ty T.cn hn rfl fun u2 => ?_
  exact ⟨.str nm, H1, (I1.tok _).tok _, ⟨tn, rfl⟩, q⟩
end
/-! ### super().__init__(..) as a def's first statement -/
/-- a statement's reading where the running def is known -/
def PAt (X : Cx) (body : List Stmt) (st : Stmt) (t : TS) : Prop := ∀ (pins : List (Addr × Obj)) (s : Shared) (σ : St) (H : Hp) (D : Ends), Inv X pins σ H s → t D σ H → PySem.wpAt (model X.prog X.w) X.A (.func body X.env) (exec st X.env) (SP X pins D) X.xe s
/-- what of the running def super() asks -/
structure SupF (X : Cx) (sf : Str) (i j : Nat) : Prop where
  ks : X.env.kindOf "super" = some .globalImplicit
  kc : X.env.kindOf "__class__" = some .free
  kv : X.env.kindOf sf = some .local
  ni : X.N[i]? = some sf
  nj : X.N[j]? = some "__class__"
  mg : X.mg "super" = none
  fn : ∃ (f : Addr) (oc : Value) (od : Option Addr) (fd : FuncData) (osl : Array (Option Value)) (ar : Arg), X.env.func = some f ∧ X.K.lookup f = some ⟨oc, od, .func fd, osl⟩ ∧ (fd.params.posonlyargs ++ fd.params.args).head? = some ar ∧ ar.arg = sf
  cd : ∃ (cda : Addr) (oc : Value) (od : Option Addr) (vs : Array Value) (osl : Array (Option Value)) (file : Str) (tf : Tok), X.env.code = .ref cda ∧ X.K.lookup cda = some ⟨oc, od, .fields vs, osl⟩ ∧ vs[2]? = some (.str file tf) ∧ ((X.prog.main.file : Str) == file) = true
  top : (X.prog.main.scope.names.lookup ("super" : Str)).isSome = false
/-- what of the classes: the def stands in D, C is the object's -/
structure SupC (K : PySem.W.Frag) (C D : Addr) : Prop where
  st : PySem.W.nsIn K cStatics "thirdparty.any" = some none
  icC : PySem.W.isClsIn K C = true
  icD : PySem.W.isClsIn K D = true
  sub : PySem.W.mroIn K C (.ref D) = some true
section
variable {X : Cx} {pins : List (Addr × Obj)} {σ : St} {H : Hp} {s : Shared}
theorem cls_data {K : PySem.W.Frag} {D : Addr} (h : PySem.W.isClsIn K D = true) {hp : Heap} (X : K.In hp) : ∃ oD cd, hp.get? D = some oD ∧ oD.data = .cls cd ∧ PySem.W.clsIn K D = some cd := by
  have h' : (PySem.W.clsIn K D).isSome = true := h
  obtain ⟨cd, hcd⟩ := Option.isSome_iff_exists.mp h'
  refine (fun q => ?_) hcd
  unfold PySem.W.clsIn at q
  split at q
  · rename_i c d cd' sl ho
    cases q
    exact ⟨_, _, X _ _ ho, rfl, hcd⟩
  · cases q
/-- super() stands, of the object at a -/
theorem sup_base {body : List Stmt} {self : Str} {i j : Nat} {a C D : Addr} {d : Option Addr} {p0 p1 : Pos} {attr : Str} {whole : Sem Value} {Q : Value → Shared → Prop} (S : SupF X self i j) (T : SupC X.K C D) (I : Inv X pins σ H s)
    (hi : σ[i]? = some (some (.ref a))) (hj : σ[j]? = some (some (.ref D))) (ea : H a = some (exo a C d)) (hat : (attr == ("__class__" : Str)) = false)
    (h : ∀ so s', Inv X pins σ H s' → s'.heap.get? so = some (PySem.W.ks_superObj D a C) → Q (.ref so) s') :
    PySem.wpAt (model X.prog X.w) X.A (.func body X.env) (attributeBase (.Call (.Name "super" p0) [] [] p1) attr X.env whole) Q X.xe s := by
  obtain ⟨f, oc, od, fd, osl, ar, ef, lf, hp, rfl⟩ := S.fn
  obtain ⟨cda, occ, odc, vs, oslc, file, tf, ec, lc, hvs, hfile⟩ := S.cd
  obtain ⟨t1, hoe⟩ := exo_at I.hok ea
  obtain ⟨oD, cdD, hD1, hD2, _⟩ := cls_data T.icD I.kIn
  refine ks_wpAt_super_base (env := X.env) S.ks S.kc hat ef (I.kIn _ _ lf) rfl hp ec (I.kIn _ _ lc) rfl hvs hfile S.top ?_
  obtain ⟨mb, h1, h2⟩ := I.mod.blt
  refine PySem.W.ks_loadName_global I.ok.kind S.ks (Calls.loadGlobal_builtin (by rw [I.ok.glob]; exact I.mod.glob.keeps I.bk) S.mg (by rw [I.ok.blt]; exact h1.keeps I.bk) ((h2 _ (by decide)).trans (by decide +kernel)) ⟨rfl, ?_⟩)
  obtain ⟨m, hn, hl⟩ := I.loc
  obtain ⟨u1, r1, l1⟩ := hl j _ _ S.nj hj (.inr (.inr S.kc))
  obtain rfl : u1 = Value.ref D := r1
  obtain ⟨u2, r2, l2⟩ := hl i _ _ S.ni hi (.inl S.kv)
  obtain rfl : u2 = Value.ref a := r2
  rcases l1 with ⟨z, _⟩ | ⟨_, c, hc, hcell⟩
  · rw [S.kc] at z
    cases z
  refine wpAny_loadName_free I.ok.kind S.kc hc hcell ?_
  have hm : m ar.arg = some (.ref a) := by
    rcases l2 with ⟨_, hm⟩ | ⟨z, _⟩
    · exact hm
    · rcases z with z | z <;> rw [S.kv] at z <;> cases z
  refine wpAny_loadName_local I.ok.kind S.kv hn hm ?_
  obtain ⟨hh, g, dr, t, os⟩ := s
  refine ks_wpAny_isType_cls hD1 hD2 ⟨rfl, ?_⟩
  refine ks_wpAny_call_super hD1 hD2 hoe rfl (fun c z => nomatch z) (PySem.W.looks_mroIn I.kIn T.sub) (fun h' e k => ?_)
  exact h _ _ (I.kept (t' := t) k) e
/-- the mro's part -/
theorem sup_mro {K : PySem.W.Frag} {C D : Addr} {name : Str} {v : Option Value} (e : PySem.W.ks_superIn K C D name = some v) : ∃ cd, PySem.W.clsIn K C = some cd ∧ PySem.W.alongIn K name ((cd.mro.dropWhile (· != .ref D)).drop 1) = some v := by
  unfold PySem.W.ks_superIn at e
  obtain ⟨cd, h1, h2⟩ := Option.bind_eq_some_iff.mp e
  exact ⟨cd, h1, h2⟩
theorem looks_mro {K : PySem.W.Frag} {M : Model} {h : Heap} (X : K.In h) {C : Addr} {cd : ClassData} (hc : PySem.W.clsIn K C = some cd) : PySem.W.Looks M h (mroOf (.ref C)) cd.mro := (PySem.W.looks_clsIn X hc).andThen .now
theorem exo_ne {C : Addr} {a : Addr} {d : Option Addr} (I : Inv X pins σ H s) (ea : H a = some (exo a C d)) (hc : PySem.W.isClsIn X.K C = true) : a ≠ C := fun z => by
  obtain ⟨oD, cd, h1, h2, _⟩ := cls_data hc I.kIn
  obtain ⟨t1, hoe⟩ := exo_at I.hok ea
  rw [z, h1] at hoe
  cases hoe
  cases h2
/-- super().__init__(..) where it is the built-in one -/
def tSupB (K : PySem.W.Frag) (i j : Nat) (ta : TA) : TS := fun D σ H => ∃ (a C Dc : Addr) (b : Bool), σ[i]? = some (some (.ref a)) ∧ σ[j]? = some (some (.ref Dc)) ∧ H a = some (exo a C none) ∧ OxC K b C ∧ SupC K C Dc ∧
  PySem.W.ks_superIn K C Dc "__init__" = some (some (.builtin (PySem.ZEX.initIdX b))) ∧ PySem.W.subIn K (.ref C) (.type (PySem.ZEX.baseX b)) = some true ∧
  ta σ H fun vs H1 => vs.length ≤ 1000 ∧ H1 a = some (exo a C none) ∧ D.nx σ H1
theorem ps_supB {body : List Stmt} {self : Str} {i j : Nat} {e : Expr} {es : List Expr} {ta : TA} {p0 p1 p2 p3 p4 : Pos} {pl : Sem Bool} (S : SupF X self i j) (ha : PA X (e :: es) ta)
    (hi : interactive X.env = false := by rfl) (hs : swapsWith (.Call (.Attribute (.Call (.Name "super" p0) [] [] p1) "__init__" p2) (e :: es) [] p3) none p4.line X.env = pure false := by rfl)
    (he : eval (.Call (.Attribute (.Call (.Name "super" p0) [] [] p1) "__init__" p2) (e :: es) [] p3) X.env = (do
      let ov ← attributeBase (.Call (.Name "super" p0) [] [] p1) "__init__" X.env (eval (.Call (.Name "super" p0) [] [] p1) X.env)
      standAt p2.atName
      let (f, first) ← holding [ov] (getMethod ov "__init__" pl)
      callWith p3 f first (backTo p3 (starEach (e :: es) X.env)) []) := by rfl)
    (hst : starEach (e :: es) X.env = (false, eval e X.env) :: starEach es X.env := by rfl) (hpl : (backTo p3 (starEach es X.env)).any (·.1) = false := by rfl) :
    PAt X body (.Expr (.Call (.Attribute (.Call (.Name "super" p0) [] [] p1) "__init__" p2) (e :: es) [] p3) p4) (tSupB X.K i j ta) := by
  intro pins s σ H D I ⟨a, C, Dc, b, h1, h2, ea, T, TC, hm, hB, h⟩
  refine ks_wpAt_Expr_any ?_ hi hs
  refine ks_wpAt_MethodCall (pl := pl) ?_ he
  refine sup_base S TC I h1 h2 ea (by decide) fun so s1 I1 hso => ?_
  obtain ⟨cd, hc, hal⟩ := sup_mro hm
  obtain ⟨t1, hoe⟩ := exo_at I1.hok ea
  have J1 : PySem.W.InstAt s1.heap a ({ cls := .ref C, dict := none, data := .fields #[.ref t1, .none, .none, .none, .bool false, .none] } : Obj) C none := ⟨hoe, rfl, rfl, trivial⟩
  have hI : PySem.W.Looks (model X.prog X.w) s1.heap (isInstance (.ref a) (.type (PySem.ZEX.baseX b))) true := J1.type.andThen (PySem.W.looks_subIn I1.kIn hB)
  obtain ⟨hh, g, dr, t, os⟩ := s1
  refine PySem.W.kxs_getMethod (PySem.ZEX.kxsX b) hso (PySem.W.looks_opaque I1.kIn TC.st) (looks_mro I1.kIn hc) rfl I1.kIn hal hI (exo_ne I1 ea TC.icC) (by decide) ?_
  have I2 : Inv X ((hh.objs.size, PySem.W.kxs_mw (PySem.ZEX.initIdX b) a) :: pins) σ H ⟨hh.push (PySem.W.kxs_mw (PySem.ZEX.initIdX b) a), g, dr, t + 1, os⟩ :=
    pin_new (t' := t + 1) I1 (fun _ _ z => Heap.get?_push_of_some _ z) (Nat.le_refl _) (Heap.get?_push_size hh rfl) (fun v z => nomatch z)
  show wpAny _ _ (callWith p3 (.ref hh.objs.size) [] (backTo p3 (starEach (e :: es) X.env)) []) _ _ _
  have hrun := ha.run p3 _ _ σ H _ I2 h
  rw [hst] at hrun ⊢
  refine PySem.W.kxs_callWith (i := PySem.ZEX.initIdX b) (x := a) (by show (false || (backTo p3 (starEach es X.env)).any (·.1)) = false; rw [hpl]; rfl) ?_
  refine evalArgs_plain (thn hrun fun us s3 ⟨vs, H1, I3, rv, hz, ea3, q⟩ => ⟨pin_at I3, ?_⟩)
  obtain ⟨nm, qn, N, bs, bm, sn, sub, ab, col, dd, k0, k1, k2, k3, k5, hC, hbm⟩ := T.cls
  obtain ⟨t3, hoe3⟩ := exo_at I3.hok ea3
  obtain ⟨h3, g3, d3, tk3, os3⟩ := s3
  have hlen : us.length ≤ sizeLine := by
    rw [← Paired.length rv, sizeLine_eq]
    omega
  refine PySem.ZEX.super_call b (I3.kIn _ _ hC) hoe3 (pin_at I3) hlen fun h' t4 k hx => ?_
  have J := I3.write (t' := tk3) (x := a) (e := a) (o := exo a C none) (by rw [ea3]; exact True.intro) (.inl rfl) k ⟨_, hx⟩ (exo_ok hx)
  have eu : upd H1 a (exo a C none) = H1 := by
    funext b
    by_cases hb : b = a
    · rw [hb, upd_same, ea3]
    · rw [upd_ne hb]
  rw [eu] at J
  exact ⟨σ, H1, unpin J, q⟩
/-- super().__init__(..) where it is an own one -/
def tSupO (K : PySem.W.Frag) (i j : Nat) (f2 : Addr) (sp : Sp) (ta : TA) : TS := fun D σ H => ∃ (a C Dc : Addr), σ[i]? = some (some (.ref a)) ∧ σ[j]? = some (some (.ref Dc)) ∧ H a = some (exo a C none) ∧ SupC K C Dc ∧
  PySem.W.ks_superIn K C Dc "__init__" = some (some (.ref f2)) ∧ ta σ H fun vs H1 => sp (.ref a :: vs) H1 (fun _ H2 => D.nx σ H2) (fun _ _ _ => False)
theorem ps_supO {body : List Stmt} {self : Str} {i j : Nat} {e : Expr} {es : List Expr} {ta : TA} {p0 p1 p2 p3 p4 : Pos} {pl : Sem Bool} {CX : CXT} {k : Nat} {f2 : Addr} {sp : Sp} (S : SupF X self i j)
    (F : FnR X.prog X.w X.K X.mg X.base CX k f2 sp) (hr : Room k X.A) (hx : Passes CX X (fun _ _ _ => False)) (tf : PySem.W.typeIn X.K (.ref f2) = some (.type "function")) (ff : PySem.W.fnIn X.K f2 = true) (ha : PA X (e :: es) ta)
    (hi : interactive X.env = false := by rfl) (hs : swapsWith (.Call (.Attribute (.Call (.Name "super" p0) [] [] p1) "__init__" p2) (e :: es) [] p3) none p4.line X.env = pure false := by rfl)
    (he : eval (.Call (.Attribute (.Call (.Name "super" p0) [] [] p1) "__init__" p2) (e :: es) [] p3) X.env = (do
      let ov ← attributeBase (.Call (.Name "super" p0) [] [] p1) "__init__" X.env (eval (.Call (.Name "super" p0) [] [] p1) X.env)
      standAt p2.atName
      let (f, first) ← holding [ov] (getMethod ov "__init__" pl)
      callWith p3 f first (backTo p3 (starEach (e :: es) X.env)) []) := by rfl)
    (hst : starEach (e :: es) X.env = (false, eval e X.env) :: starEach es X.env := by rfl) (hpl : (backTo p3 (starEach es X.env)).any (·.1) = false := by rfl) :
    PAt X body (.Expr (.Call (.Attribute (.Call (.Name "super" p0) [] [] p1) "__init__" p2) (e :: es) [] p3) p4) (tSupO X.K i j f2 sp ta) := by
  intro pins s σ H D I ⟨a, C, Dc, h1, h2, ea, TC, hm, h⟩
  refine ks_wpAt_Expr_any ?_ hi hs
  refine ks_wpAt_MethodCall (pl := pl) ?_ he
  refine sup_base S TC I h1 h2 ea (by decide) fun so s1 I1 hso => ?_
  obtain ⟨cd, hc, hal⟩ := sup_mro hm
  obtain ⟨of, hof, hofc⟩ : ∃ of, s1.heap.get? f2 = some of ∧ of.cls = .type "function" := by
    have tf' : (X.K.lookup f2).map (·.cls) = some (.type "function") := tf
    cases z : X.K.lookup f2 with
    | none => rw [z] at tf'; cases tf'
    | some of => rw [z] at tf'; exact ⟨of, I1.kIn _ _ z, Option.some.inj tf'⟩
  have hb := base_none I1 (Nat.le_refl _)
  obtain ⟨hh, g, dr, t, os⟩ := s1
  refine ks_wpAny_getMethod_super hso (PySem.W.looks_opaque I1.kIn TC.st) (looks_mro I1.kIn hc) rfl I1.kIn hal hof hofc (exo_ne I1 ea TC.icC) (by decide) ?_
  have I2 : Inv X ((hh.objs.size, PySem.W.methodObj (.ref f2) (.ref a)) :: pins) σ H ⟨hh.push (PySem.W.methodObj (.ref f2) (.ref a)), g, dr, t + 1, os⟩ :=
    pin_new (t' := t + 1) I1 (fun _ _ z => Heap.get?_push_of_some _ z) (Nat.le_refl _) (Heap.get?_push_size hh rfl) (fun v z => nomatch z)
  show wpAny _ _ (callWith p3 (.ref hh.objs.size) [] (backTo p3 (starEach (e :: es) X.env)) []) _ _ _
  refine callwith_cm (C := a) (g := f2) I2 hb ff (thn (ha.run p3 _ _ σ H _ I2 h) fun us s3 ⟨vs, H1, I3, rv, q⟩ => ⟨⟨pin_at I3, I3.kIn⟩, ?_⟩) hst hpl
  have z := run_cm F hr hx I3 rv q
  exact thn z fun u s4 ⟨v, H2, I4, _, q4⟩ => ⟨σ, H2, I4, q4⟩
end
end L2

set_option Elab.async false
set_option linter.all false
set_option maxRecDepth 100000
set_option maxHeartbeats 4000000
namespace L2
open PySem PySem.Spec PySem.Calls PyProof.Rows NdefX ClX
/-! ### a method that says super(): its text, where it stands -/
def nfS (st : Stmt) (x qual : Str) (cc cda : Addr) : NF := ⟨x, qual, defArgs st, defBody st, defScope st, [("__class__", cc)], cda⟩
structure FunS (P : Program) (K : PySem.W.Frag) (mg : Str → Option Value) (x qual : Str) (st : Stmt) (f : Addr) (fd : FuncData) (cda cc Dc : Addr) : Prop where
  ex : ∃ (oc : Value) (od : Option Addr) (kV doc pm : Value) (an : Option Addr) (ct : Value) (osl : Array (Option Value)),
    fd = PySem.W.ksFn x qual (defArgs st) (defBody st) (defScope st) .none kV doc pm an (.ref cda) ct cc ∧ K.lookup f = some ⟨oc, od, .func fd, osl⟩ ∧ PySem.W.codeIn K (.ref cda) qual = true
  cell : ∃ (oc : Value) (od : Option Addr) (osl : Array (Option Value)), K.lookup cc = some ⟨oc, od, .cell (some (.ref Dc)), osl⟩
  code : ∃ (oc : Value) (od : Option Addr) (vs : Array Value) (osl : Array (Option Value)) (file : Str) (tf : Tok), K.lookup cda = some ⟨oc, od, .fields vs, osl⟩ ∧ vs[2]? = some (.str file tf) ∧ ((P.main.file : Str) == file) = true
  kp : PySem.W.keepIn K (.ref f) = true
  ty : PySem.W.typeIn K (.ref f) = some (.type "function")
  fn : PySem.W.fnIn K f = true
  top : (P.main.scope.names.lookup ("super" : Str)).isSome = false
  mg : mg "super" = none
section
variable {CX : CXT} {P : Program} {w : World} {K : PySem.W.Frag} {mg : Str → Option Value} {base : Heap} {N ps : List Str} {x qual : Str} {st : Stmt} {f cda cc Dc : Addr} {fd : FuncData} {A : Around} {outer : List Env} {s : Shared} {H : Hp} {E : XK} {k : Nat} {sp : Sp}
theorem FunS.sup (FS : FunS P K mg x qual st f fd cda cc Dc) {sf : Str} {i j : Nat} (h1 : (defScope st).names.lookup ("super" : Str) = some .globalImplicit) (h2 : (defScope st).names.lookup ("__class__" : Str) = some .free) (h3 : (defScope st).names.lookup sf = some .local)
    (hp : (((defArgs st).posonlyargs ++ (defArgs st).args).head?).map (·.arg) = some sf) (ni : N[i]? = some sf) (nj : N[j]? = some "__class__") : SupF (ncx CX P w K mg base N (nfS st x qual cc cda) f A outer s H E) sf i j := by
  obtain ⟨oc, od, kV, doc, pm, an, ct, osl, rfl, lk, _⟩ := FS.ex
  obtain ⟨ar, ha, he⟩ := Option.map_eq_some_iff.mp hp
  obtain ⟨occ, odc, vs, oslc, file, tf, lc, hv, hf⟩ := FS.code
  exact ⟨h1, h2, h3, ni, nj, FS.mg, ⟨f, oc, od, _, osl, ar, rfl, lk, ha, he⟩, ⟨cda, occ, odc, vs, oslc, file, tf, rfl, lc, hv, hf⟩, FS.top⟩
theorem FunS.binds (FS : FunS P K mg x qual st f fd cda cc Dc)
    (h : ∀ (kV doc pm : Value) (an : Option Addr) (ct : Value) (us : List Value), us.length = ps.length → bindArgs (PySem.W.ksFn x qual (defArgs st) (defBody st) (defScope st) .none kV doc pm an (.ref cda) ct cc) ⟨us, []⟩ = pure (ps.zip us)) : Binds K fd ps [] := by
  obtain ⟨oc, od, kV, doc, pm, an, ct, osl, rfl, lk, _⟩ := FS.ex
  exact .all (h kV doc pm an ct)
/-- THE RULE: such a method by its body, the first statement run where the def is known -/
theorem FunS.ok (FS : FunS P K mg x qual st f fd cda cc Dc) {st0 : Stmt} {rest : List Stmt} (hst : defBody st = st0 :: rest) (S : NScope N ps ["__class__"] (defScope st)) (len : ∀ vs H Q E, sp vs H Q E → vs.length = ps.length)
    (hbody : ∀ (A : Around) (outer : List Env) (s : Shared) (H : Hp) (vs : List V) (Q : VK) (E : XK), Room k (A.deeper (envF (nfS st x qual cc cda) f s.heap.objs.size)) → sp vs H Q E →
      ∃ t0 t1, PAt (ncx CX P w K mg base N (nfS st x qual cc cda) f A outer s H E) (st0 :: rest) st0 t0 ∧ PSs (ncx CX P w K mg base N (nfS st x qual cc cda) f A outer s H E) rest t1 ∧
        t0 { nx := fun σ H' => t1 { nx := fun _ H' => Q .non H', rt := Q } σ H', rt := Q } (startF N vs [some (.ref Dc)]) H) : FnOk P w K mg base CX (k + 1) f fd ps sp := by
  obtain ⟨oc, od, kV, doc, pm, an, ct, osl, rfl, lk, hcd⟩ := FS.ex
  obtain ⟨occ, odc, oslc, lc⟩ := FS.cell
  refine ⟨len, fun A outer s H args us vs Q E hr e0 hb r hsp => ?_⟩
  have hl := len _ _ _ _ hsp
  have KX : K.In s.heap := e0.mod.kin.keeps fun b o e => (e0.bs b o e).1
  have lim : s.heap.NoLimit := e0.mod.nolimit.keeps fun b o e => (e0.bs b o e).1
  have hcc : H cc = none := (e0.bs cc _ (e0.mod.kin _ _ lc)).2
  have C : CellsAt [(("__class__" : Str), cc)] ["__class__"] [some (.ref Dc)] s.heap H := by
    refine ⟨rfl, fun y c e => ?_, fun y z c e1 e2 => ?_, fun i y e => ?_⟩
    · have e' : ([(("__class__" : Str), cc)] : List (Str × Addr)).lookup y = some c := e
      rw [List.lookup_cons] at e'
      split at e'
      · cases e'
        exact ⟨hcc, some (.ref Dc), _, KX _ _ lc, rfl⟩
      · cases e'
    · have f1 := PySem.mem_of_lookup e1
      have f2 := PySem.mem_of_lookup e2
      rw [List.mem_singleton] at f1 f2
      cases f1
      cases f2
      rfl
    · have hi : i = 0 ∧ y = "__class__" := by
        cases i with
        | zero =>
          cases e
          exact ⟨rfl, rfl⟩
        | succ i => simp at e
      obtain ⟨rfl, rfl⟩ := hi
      refine ⟨cc, by simp [List.lookup], fun v ev => ?_⟩
      cases ev
      exact ⟨.ref Dc, rfl, _, KX _ _ lc, rfl⟩
  refine ks_codeAny_call_defAt (fd := PySem.W.ksFn x qual (defArgs st) (defBody st) (defScope st) .none kV doc pm an (.ref cda) ct cc) (body := defBody st) (binds := ps.zip us) hr.depth (KX _ _ lk) rfl lim (PySem.W.codeRec_of KX hcd) rfl hb S.nocell
    (fun y hy => S.par y.1 (List.of_mem_zip (show (y.1, y.2) ∈ ps.zip us from hy)).1) (fun h₁ hns kp => ?_) S.co S.gen S.kind
  show PySem.wpAt _ (A.deeper (envF (nfS st x qual cc cda) f s.heap.objs.size)) (.func (defBody st) (envF (nfS st x qual cc cda) f s.heap.objs.size)) (execs (defBody st) (envF (nfS st x qual cc cda) f s.heap.objs.size)) _ _ _
  obtain ⟨t0, t1, h0, h1, hq⟩ := hbody A outer s H vs Q E (hr.deeper _) hsp
  have I : Inv (ncx CX P w K mg base N (nfS st x qual cc cda) f A outer s H E) [] (startF N vs [some (.ref Dc)]) H { s with heap := h₁, toks := s.toks + (ps.zip us).length } := inv_startN (F := nfS st x qual cc cda) S hr.hd e0 hl r C hns kp
  have fin : ∀ {s' : Shared} {σ' : L2.St} {H' : Hp} {v : V} {u : Value}, Inv (ncx CX P w K mg base N (nfS st x qual cc cda) f A outer s H E) [] σ' H' s' → L2.RelV v u → Q v H' → CE outer P w H s Q u s' :=
    fun {s' σ' H' v u} J rv q => ⟨v, H', J.os, J.bare, J.base, J.hok, rv, q⟩
  have key : ∀ (fl : Flow) (s' : Shared), SP (ncx CX P w K mg base N (nfS st x qual cc cda) f A outer s H E) [] { nx := fun _ H' => Q .non H', rt := Q } fl s' → CR CX outer P w H s Q E (.ok (.ret (match fl with | .ret v => v | _ => .none))) s' := fun fl s' hs => by
    cases fl with
    | ret u =>
      obtain ⟨v, σ', H', J, rv, q⟩ := hs
      exact fin J rv q
    | next =>
      obtain ⟨σ', H', J, q⟩ := hs
      exact fin (v := V.non) (u := Value.none) J rfl q
    | brk =>
      obtain ⟨_, _, _, q⟩ := hs
      exact False.elim q
    | cont =>
      obtain ⟨_, _, _, q⟩ := hs
      exact False.elim q
  rw [hst]
  refine ks_wpAt_execs_cons (ks_wpAt_mono (h0 [] _ _ H _ I hq) (fun fl s' hs => ?_) fun e s' hs => hs)
  cases fl with
  | next =>
    obtain ⟨σ', H', J, q⟩ := hs
    exact wpAt_of_wpAny (wpAny_mono (h1.run [] s' σ' H' _ J q) key fun e s' hs => hs)
  | ret u =>
    obtain ⟨v, σ', H', J, rv, q⟩ := hs
    exact fin J rv q
  | brk =>
    obtain ⟨_, _, _, q⟩ := hs
    exact False.elim q
  | cont =>
    obtain ⟨_, _, _, q⟩ := hs
    exact False.elim q
end
/-! ### making such an exception -/
section
variable {X : Cx} {e : Expr} {es : List Expr} {ta : TA} {p pos : Pos}
theorem pmk_ox {CX : CXT} {x : Str} {b : Bool} {C fI : Addr} {k : Nat} {fd : FuncData} {ps : List Str} {sp : Sp} {ds : List Value} {dvs : List V} (T : OxC X.K b C) (iC : PySem.W.findIn X.K (.ref C) "__init__" = some (some (.ref fI))) (tI : PySem.W.typeIn X.K (.ref fI) = some (.type "function"))
    (F1 : FnOk X.prog X.w X.K X.mg X.base CX k fI fd ps sp) (hr : Room (k + 1) X.A) (hb : Binds X.K fd ps ds) (hd : Vals dvs ds) (hx : Passes CX X (fun _ _ _ => False)) (hg : Gl X x) (hm : X.mg x = some (.ref C)) (ha : PA X (e :: es) ta)
    (hdb : (x == ("__debug__" : Str)) = false := by decide) (he : starEach (e :: es) X.env = (false, eval e X.env) :: starEach es X.env := by rfl) (hpl : (backTo pos (starEach es X.env)).any (·.1) = false := by rfl) :
    PMk X (.Call (.Name x p) (e :: es) [] pos) (tMkO C sp dvs ta) := by
  intro pins s σ H Q I h
  obtain ⟨nm, q, N, bs, bm, sn, sub, ab, col, dd, k0, k1, k2, k3, k5, hC, hbm⟩ := T.cls
  refine wpAny_Call_Name_kw (ld_glob I hg hm ?_ hdb)
  refine PySem.W.callWith_K (h₀ := X.base) I.ok.mod.kin T.kC (thn (ha.run pos pins s σ H _ I h) fun us s1 ⟨vs, H1, I1, r1, hz, q1⟩ => ⟨I1.kIn, ?_⟩) he hpl
  show wpAny _ _ (call (.ref C) us) _ _ _
  obtain ⟨hp, g, dr, tk, os⟩ := s1
  have hsz : hp.objs.size ≤ hp.objs.size + 1 := Nat.le_succ _
  have hn : H1 (hp.objs.size + 1) = none := I1.hok.fresh hsz
  have hq := q1 (hp.objs.size + 1) hn
  have kk : ∀ b o, hp.get? b = some o → ((hp.push (PySem.W.kdv_tup us)).push (PySem.HandSPX.excO C hp.objs.size)).get? b = some o := fun b o e => Heap.get?_push_of_some _ (Heap.get?_push_of_some _ e)
  have hget : ((hp.push (PySem.W.kdv_tup us)).push (PySem.HandSPX.excO C hp.objs.size)).get? (hp.objs.size + 1) = some (PySem.HandSPX.excO C hp.objs.size) := by heap_get
  have I2 : Inv X pins σ (upd H1 (hp.objs.size + 1) (exo (hp.objs.size + 1) C none)) ⟨(hp.push (PySem.W.kdv_tup us)).push (PySem.HandSPX.excO C hp.objs.size), g, dr, tk, os⟩ :=
    I1.laid (t' := tk) (a := hp.objs.size + 1) (o := exo (hp.objs.size + 1) C none) (h' := (hp.push (PySem.W.kdv_tup us)).push (PySem.HandSPX.excO C hp.objs.size)) kk hsz (exo_ok hget)
  have r2 : Vals (V.ref (hp.objs.size + 1) :: (vs ++ dvs)) (Value.ref (hp.objs.size + 1) :: (us ++ ds)) := .cons rfl (r1.append hd)
  have hl : (Value.ref (hp.objs.size + 1) :: us ++ ds).length = ps.length := by
    have e := r2.length
    rw [F1.len _ _ _ _ hq] at e
    exact e.symm
  have hus : us.length ≤ sizeLine := by
    rw [← Paired.length r1, sizeLine_eq]
    omega
  refine wpAny_call (PySem.ZEX.callB b hbm (I1.kIn _ _ hC) (PySem.W.looks_findIn I1.kIn iC) (fun self => PySem.W.bind_fn I1.kIn self tI) hus
    (codeAny_mono (F1.run _ X.stack _ _ ⟨Value.ref (hp.objs.size + 1) :: us, []⟩ (Value.ref (hp.objs.size + 1) :: (us ++ ds)) _ _ (fun _ _ _ => False) (hr.make C us []) (I2.env0.make C us []) (hb _ (Value.ref (hp.objs.size + 1) :: us) I2.kIn hl) r2 hq) fun r s' hq' => ?_))
  cases r with
  | error er => exact hx pins σ _ _ er s' I2 hq'
  | ok fl =>
    cases fl with
    | ret u =>
      obtain ⟨v, H2, os2, bare2, un2, hok2, rv, ev, d, fs, ea, ed, hd1, q2⟩ := hq'
      subst ev
      obtain ⟨h2, g2, d2, t2, os'⟩ := s'
      exact ⟨rv, mk_end (raises_own T.exC T.tyC) I1 hsz kk un2 hok2 os2 bare2 ea ed hd1 q2⟩
    | next => exact False.elim hq'
    | brk => exact False.elim hq'
    | cont => exact False.elim hq'
/-- the heap behind the making -/
theorem mk_heap {H : Hp} {a d : Addr} {o : HO} {u : HO} {v : HO} (ha : H a = none) (hd : d ≠ a) : upd (del (upd (upd (upd H a o) d u) a v) a) d w = upd H d w := by
  funext b
  by_cases hb : b = d
  · rw [hb, upd_same, upd_same]
  · rw [upd_ne hb, upd_ne hb]
    by_cases hc : b = a
    · rw [hc, del_same, ha]
    · rw [del_ne hc, upd_ne hc, upd_ne hb, upd_ne hc]
end
/-! ### the promises of the three kinds of __init__ -/
structure PkC (K : PySem.W.Frag) (b : Bool) (Dc C : Addr) (nm : Str) : Prop where
  ox : OxC K b C
  nc : NmC K C nm
  sc : SupC K C Dc
  si : PySem.W.ks_superIn K C Dc "__init__" = some (some (.builtin (PySem.ZEX.initIdX b)))
  sb : PySem.W.subIn K (.ref C) (.type (PySem.ZEX.baseX b)) = some true
  no : PySem.W.findIn K (.ref C) "called" = some none
/-- __init__(self, reason): super().__init__(reason), self.called = .. -/
def spPike (K : PySem.W.Frag) (Dc : Addr) : Sp := fun vs H Q _ => ∃ (a C : Addr) (nm : Str) (v : V), vs = [.ref a, v] ∧ H a = some (exo a C none) ∧ PkC K false Dc C nm ∧
  ∀ dx, H dx = none → dx ≠ a → Q .non (upd (upd H dx (exd dx [("called", .str nm)])) a (exo a C (some dx)))
/-- __init__(self, number): super().__init__(f".."), self.called, self.number -/
def spMiss (K : PySem.W.Frag) (Dc : Addr) : Sp := fun vs H Q _ => ∃ (a C : Addr) (nm : Str) (n : Int), vs = [.ref a, .int n] ∧ H a = some (exo a C none) ∧ PkC K true Dc C nm ∧ PySem.W.findIn K (.ref C) "number" = some none ∧ n.natAbs.log2 < 1920 ∧
  ∀ dx, H dx = none → dx ≠ a → Q .non (upd (upd (upd H dx (exd dx [("called", .str nm)])) a (exo a C (some dx))) dx (exd dx [("number", .int n), ("called", .str nm)]))
/-- __init__(self, n): super().__init__(f"..") of PikeError, self.f = n -/
def spPlace (K : PySem.W.Frag) (Dp Dc : Addr) (fp : Addr) (f : Str) : Sp := fun vs H Q _ => ∃ (a C : Addr) (nm : Str) (n : Int), vs = [.ref a, .int n] ∧ H a = some (exo a C none) ∧ PkC K false Dp C nm ∧ SupC K C Dc ∧
  PySem.W.ks_superIn K C Dc "__init__" = some (some (.ref fp)) ∧ PySem.W.findIn K (.ref C) f = some none ∧ n.natAbs.log2 < 1920 ∧
  ∀ dx, H dx = none → dx ≠ a → Q .non (upd (upd (upd H dx (exd dx [("called", .str nm)])) a (exo a C (some dx))) dx (exd dx [(f, .int n), ("called", .str nm)]))
theorem nameIn_of {K : PySem.W.Frag} {nm q nm2 : Str} {C N : Addr} {bs bm sub : List Value} {hdct : Bool} {sn : List Str} {ab : Bool} {col : Option Bool} {dd : Option Addr} {k0 k1 k2 k3 k5 : Option Value} {newId : String} {t : Tok} (h : K.lookup C = some (excClassObj nm q C N bs bm hdct sn sub ab col dd k0 k1 k2 k3 k5 newId))
    (hk : k2 = some (.str nm2 t)) : PySem.ZEX.nameIn K C = some (.str nm2 t) := by
  unfold PySem.ZEX.nameIn
  rw [h]
  subst hk
  rfl
section
variable {K : PySem.W.Frag} {Dc C : Addr} {nm : Str} {H : Hp} {Q : XK}
/-- the wish behind C(v) -/
abbrev MkQ (C : Addr) (H : Hp) (Q : XK) (a : Addr) : VK := fun v H2 => v = .non ∧ ∃ (d : Addr) (fs : List (Str × V)), H2 a = some (exo a C (some d)) ∧ H2 d = some (exd d fs) ∧ H d = none ∧ Q (.ref C) (some d) (upd (del H2 a) d (.xd fs))
theorem use_pike {v : V} (T : PkC K false Dc C nm) (k : ∀ d, H d = none → Q (.ref C) (some d) (upd H d (.xd [("called", .str nm)]))) :
    [v].length ≤ 1000 ∧ ∀ a, H a = none → spPike K Dc (.ref a :: ([v] ++ [])) (upd H a (exo a C none)) (MkQ C H Q a) (fun _ _ _ => False) := by
  refine ⟨by show 1 ≤ 1000; decide, fun a ha => ⟨a, C, nm, v, rfl, upd_same, T, fun dx hdx hne => ⟨rfl, dx, [("called", .str nm)], upd_same, ?_, ?_, ?_⟩⟩⟩
  · rw [upd_ne hne, upd_same]
  · rw [upd_ne hne] at hdx
    exact hdx
  · rw [mk_heap ha hne]
    rw [upd_ne hne] at hdx
    exact k dx hdx
theorem mk_heap2 {H : Hp} {a d : Addr} {o u v u2 z : HO} (ha : H a = none) (hd : d ≠ a) : upd (del (upd (upd (upd (upd H a o) d u) a v) d u2) a) d z = upd H d z := by
  funext b
  by_cases hb : b = d
  · rw [hb, upd_same, upd_same]
  · rw [upd_ne hb, upd_ne hb]
    by_cases hc : b = a
    · rw [hc, del_same, ha]
    · rw [del_ne hc, upd_ne hb, upd_ne hc, upd_ne hb, upd_ne hc]
theorem use_miss {n : Int} (T : PkC K true Dc C nm) (hno : PySem.W.findIn K (.ref C) "number" = some none) (hz : n.natAbs.log2 < 1920) (k : ∀ d, H d = none → Q (.ref C) (some d) (upd H d (.xd [("number", .int n), ("called", .str nm)]))) :
    [V.int n].length ≤ 1000 ∧ ∀ a, H a = none → spMiss K Dc (.ref a :: ([V.int n] ++ [])) (upd H a (exo a C none)) (MkQ C H Q a) (fun _ _ _ => False) := by
  refine ⟨by show 1 ≤ 1000; decide, fun a ha => ⟨a, C, nm, n, rfl, upd_same, T, hno, hz, fun dx hdx hne => ⟨rfl, dx, [("number", .int n), ("called", .str nm)], ?_, upd_same, ?_, ?_⟩⟩⟩
  · rw [upd_ne hne.symm, upd_same]
  · rw [upd_ne hne] at hdx
    exact hdx
  · rw [mk_heap2 ha hne]
    rw [upd_ne hne] at hdx
    exact k dx hdx
theorem use_place {Dp fp : Addr} {f : Str} {n : Int} (T : PkC K false Dp C nm) (sc : SupC K C Dc) (so : PySem.W.ks_superIn K C Dc "__init__" = some (some (.ref fp))) (hno : PySem.W.findIn K (.ref C) f = some none) (hz : n.natAbs.log2 < 1920)
    (k : ∀ d, H d = none → Q (.ref C) (some d) (upd H d (.xd [(f, .int n), ("called", .str nm)]))) :
    [V.int n].length ≤ 1000 ∧ ∀ a, H a = none → spPlace K Dp Dc fp f (.ref a :: ([V.int n] ++ [])) (upd H a (exo a C none)) (MkQ C H Q a) (fun _ _ _ => False) := by
  refine ⟨by show 1 ≤ 1000; decide, fun a ha => ⟨a, C, nm, n, rfl, upd_same, T, sc, so, hno, hz, fun dx hdx hne => ⟨rfl, dx, [(f, .int n), ("called", .str nm)], ?_, upd_same, ?_, ?_⟩⟩⟩
  · rw [upd_ne hne.symm, upd_same]
  · rw [upd_ne hne] at hdx
    exact hdx
  · rw [mk_heap2 ha hne]
    rw [upd_ne hne] at hdx
    exact k dx hdx
end
theorem log_small {n : Int} (h1 : -(2 ^ 200) ≤ n) (h2 : n ≤ 2 ^ 200) : n.natAbs.log2 < 1920 := by
  have h3 : n.natAbs ≤ 2 ^ 200 := by omega
  by_cases h0 : n.natAbs = 0
  · rw [h0]
    decide
  · rw [Nat.log2_lt h0]
    exact Nat.lt_of_le_of_lt h3 (Nat.pow_lt_pow_right (by decide) (by decide))
end L2

set_option Elab.async false
set_option linter.all false
set_option maxRecDepth 100000
set_option maxHeartbeats 4000000
/-! several except clauses, with names and without -/
namespace L2
open PySem PySem.Spec PySem.Calls PyProof.Rows
abbrev TsX := Addr → Value → Option Addr → TS
/-- what stands behind a suite that had a name -/
abbrev Ends.unnamed (D : Ends) (i : Nat) : Ends := { nx := fun σ H => D.nx (σ.set i none) H, rt := D.rt, bk := fun σ H => D.bk (σ.set i none) H, ct := fun σ H => D.ct (σ.set i none) H }
def wMix (K : PySem.W.Frag) (Wout : WX) (D : Ends) : List (Value × Option Nat × TsX) → WX
  | [] => Wout
  | (c, oi, ts) :: r => fun cls d σ H => ∃ b, PySem.W.exmOne K cls c = some b ∧
      (b = true → ∀ a, H a = none → match oi with | none => ts a cls d D σ H | some i => ts a cls d (D.unnamed i) (σ.set i (some (.ref a))) H) ∧ (b = false → wMix K Wout D r cls d σ H)
/-- an exception that was caught, ahead of the clauses -/
structure Air (X : Cx) (pins : List (Addr × Obj)) (σ : St) (H : Hp) (sI : Shared) (B : Heap) (a : Addr) (cls : Value) (d : Option Addr) (s : Shared) : Prop where
  inv : Inv X pins σ H sI
  nb : ∀ b o, sI.heap.get? b = some o → b ∉ frs X.stack → B.get? b = some o
  up : sI.heap.UpToSlots s.heap
  fl : HandSPX.FlyingZ B (X.env :: X.outer) a (Zc cls d) s.heap
  na : H a = none
  os : s.os = sI.os
  ag : AllBare s.gens
section
variable {X : Cx} {pins : List (Addr × Obj)} {σ : St} {H : Hp} {sI s : Shared} {B : Heap} {a : Addr} {cls : Value} {d : Option Addr} {D : Ends} {Wout : WX}
theorem Air.land (C : Air X pins σ H sI B a cls d s) : Inv X pins σ H s := C.inv.landed C.nb C.fl.1 C.up C.os C.ag
theorem Air.off (C : Air X pins σ H sI B a cls d s) (hf : X.env.frame = some X.env.locals) : a ≠ X.env.locals ∧ a ∉ X.fs := by
  obtain ⟨oe, vs, he, _, hd⟩ := C.fl.there
  have no : a ∉ frs (X.env :: X.outer) := fun hm => by
    obtain ⟨_, o, e, q⟩ := C.fl.2.2.1.mem hm
    cases he.symm.trans e
    exact q _ hd
  exact ⟨fun z => no (List.mem_filterMap.mpr ⟨X.env, List.mem_cons_self, by rw [hf, z]⟩), fun hm => by
    obtain ⟨e, h1, h2⟩ := List.mem_filterMap.mp hm
    exact no (List.mem_filterMap.mpr ⟨e, List.mem_cons_of_mem _ h1, h2⟩)⟩
/-- in a suite -/
theorem Air.in_ (C : Air X pins σ H sI B a cls d s) (hf : X.env.frame = some X.env.locals) : ∃ oe, Zc cls d oe ∧ (∃ vs, oe.data = .fields vs) ∧ s.heap.get? a = some oe ∧ Inv (X.suite a ((a, oe) :: (X.pn ++ pins))) [] σ H s := by
  obtain ⟨oe, vs, he, hz, hd⟩ := C.fl.there
  exact ⟨oe, hz, ⟨vs, hd⟩, he, C.land.suite he hd C.na (C.off hf).1 (C.off hf).2⟩
/-- no clause is left: it goes on -/
theorem Air.out (C : Air X pins σ H sI B a cls d s) (hs : X.stack = X.env :: X.outer) (hf : X.env.frame = some X.env.locals) (tk : Takes X Wout) (w : Wout cls d σ H) : wpAny (model X.prog X.w) X.A (handleBy (.ref a) X.env []) (SP X pins D) X.xe s := by
  refine wpAny_handleBy_nil ?_
  have fl := C.fl
  obtain ⟨_, _, _, oe, vs, T, oT, ts', he, hz, hd, h1, hr⟩ := id fl
  have go : wpAny (model X.prog X.w) X.A (setFlight (.ref a) X.env.frame) (fun _ s4 => wpAny (model X.prog X.w) X.A (throw (.ref a) : Sem Flow) (SP X pins D) X.xe s4) X.xe s := by
    rw [hf]
    refine HandSPX.setFlight_upZ fl fun h4 hh4 up4 => wpAny_throw (tk _ _ ?_)
    exact ⟨a, B, sI, pins, σ, H, cls, d, rfl, C.inv, C.nb, C.up.trans up4, .inr (.inr (by rw [hs]; exact hh4)), C.na, C.os, C.ag, w⟩
  unfold PySem.passOn
  refine wpAny_bind (wpAny_field he hd h1 ?_)
  rw [if_neg (show ¬ ((Value.ref T == Value.none) = true) from by simp)]
  first
    | exact wpAny_bind (wpAny_pure (wpAny_bind go))
    | exact wpAny_bind go
/-- a clause's test -/
theorem Air.asks (C : Air X pins σ H sI B a cls d s) (hf : X.env.frame = some X.env.locals) {x : Str} {c : Value} {np : Pos} {b : Bool} {R : Bool → Shared → Prop} {E : Value → Shared → Prop} (hc : Names X x c) (hb : PySem.W.exmOne X.K cls c = some b) (k : R b s) :
    wpAny (model X.prog X.w) (X.A.mark (some (.ref a))) (eval (.Name x np) X.env) (fun t s1 => wpAny (model X.prog X.w) (X.A.mark (some (.ref a))) (excMatches (.ref a) t) R E s1) E s := by
  obtain ⟨oe, hz, _, he, S⟩ := C.in_ hf
  have LT : PySem.W.Looks (model X.prog X.w) s.heap (typeOf (.ref a)) cls := fun A Q E s k q => wpAny_typeOf_ref (k _ _ he) (by rw [hz.1]; exact q)
  have LM := PySem.W.exm_one (M := model X.prog X.w) C.land.kIn LT hb
  obtain ⟨hg, hdb, hm | ⟨hm, hv, hn⟩⟩ := hc
  · exact ld_glob (X := X.suite a ((a, oe) :: (X.pn ++ pins))) S hg hm (LM.here k) hdb
  · exact ld_blt (X := X.suite a ((a, oe) :: (X.pn ++ pins))) S hg hm hv (LM.here k) hn hdb
end
inductive HdsM (X : Cx) : List ExceptHandler → List (Value × Option Nat × TsX) → Prop
  | nil : HdsM X [] []
  | cons {x : Str} {c : Value} {ts : TsX} {b₀ : Stmt} {suite : List Stmt} {np p' : Pos} {hds : List ExceptHandler} {l : List (Value × Option Nat × TsX)} : Names X x c →
      (∀ (a : Addr) (oe : Obj) (cls : Value) (d : Option Addr) (pn : List (Addr × Obj)), Zc cls d oe → (∃ vs, oe.data = .fields vs) → PSs (X.suite a ((a, oe) :: pn)) (b₀ :: suite) (ts a cls d)) → HdsM X hds l →
      HdsM X (.ExceptHandler (some (.Name x np)) none (b₀ :: suite) p' :: hds) ((c, none, ts) :: l)
  | as {x n : Str} {c : Value} {i : Nat} {ts : TsX} {b₀ : Stmt} {suite : List Stmt} {np p' : Pos} {hds : List ExceptHandler} {l : List (Value × Option Nat × TsX)} : X.N[i]? = some n → X.env.kindOf n = some .local → Names X x c →
      (∀ (a : Addr) (oe : Obj) (cls : Value) (d : Option Addr) (pn : List (Addr × Obj)), Zc cls d oe → (∃ vs, oe.data = .fields vs) → PSs (X.suite a ((a, oe) :: pn)) (b₀ :: suite) (ts a cls d)) → HdsM X hds l →
      HdsM X (.ExceptHandler (some (.Name x np)) (some n) (b₀ :: suite) p' :: hds) ((c, some i, ts) :: l)
section
variable {X : Cx} {pins : List (Addr × Obj)} {σ : St} {H : Hp} {sI s : Shared} {B : Heap} {a : Addr} {cls : Value} {d : Option Addr} {D : Ends} {Wout : WX}
theorem Air.clauses (C : Air X pins σ H sI B a cls d s) (hs : X.stack = X.env :: X.outer) (hf : X.env.frame = some X.env.locals) (hN : X.N.Nodup) (tk : Takes X Wout) {hds : List ExceptHandler} {l : List (Value × Option Nat × TsX)} (hk : HdsM X hds l) :
    wMix X.K Wout D l cls d σ H → wpAny (model X.prog X.w) X.A (handleBy (.ref a) X.env hds) (SP X pins D) X.xe s := by
  have ok := C.inv.ok
  induction hk with
  | nil => exact fun w => C.out hs hf tk w
  | @cons x c ts b₀ suite np p' hds l hc hsu r ih =>
    rintro ⟨b, hb, hy, hn⟩
    refine wpAny_handleBy_cons (codeAny_handlers_test (C.asks hf hc hb ?_)) (by intro q; cases q)
    cases b with
    | false => exact ih (hn rfl)
    | true =>
      refine codeAny_handlers_suite (HandSPX.lands_againZ C.fl fun h4 fl4 up4 => ?_)
      have C4 : Air X pins σ H sI B a cls d { s with heap := h4 } := ⟨C.inv, C.nb, C.up.trans up4, fl4, C.na, C.os, C.ag⟩
      obtain ⟨oe, hz, hd, _, S⟩ := C4.in_ hf
      refine wpAny_mono ((hsu a oe cls d (X.pn ++ pins) hz hd).run [] _ _ H _ S (hy rfl a C.na)) (fun f s6 q => ?_) fun _ _ z => False.elim z
      cases f with
      | ret u =>
        obtain ⟨v, σ6, H6, S6, r6, q⟩ := q
        exact ⟨v, σ6, H6, S6.unsuite ok, r6, q⟩
      | _ =>
        obtain ⟨σ6, H6, S6, q⟩ := q
        exact ⟨σ6, H6, S6.unsuite ok, q⟩
  | @as x n c i ts b₀ suite np p' hds l hi hl hc hsu r ih =>
    rintro ⟨b, hb, hy, hn⟩
    refine wpAny_handleBy_cons (codeAny_handlers_test (C.asks hf hc hb ?_)) (by intro q; cases q)
    cases b with
    | false => exact ih (hn rfl)
    | true =>
      refine codeAny_handlers_suite_as (HandSPX.lands_againZ C.fl fun h4 fl4 up4 => ?_)
      have C4 : Air X pins σ H sI B a cls d { s with heap := h4 } := ⟨C.inv, C.nb, C.up.trans up4, fl4, C.na, C.os, C.ag⟩
      obtain ⟨oe, hz, hd, _, S⟩ := C4.in_ hf
      refine store_ok (X := X.suite a ((a, oe) :: (X.pn ++ pins))) (v := .ref a) S hN hi (.inl hl) rfl (fun s5 S5 => ?_) (.inr hl)
      refine wpAny_mono ((hsu a oe cls d (X.pn ++ pins) hz hd).run [] s5 _ H _ S5 (hy rfl a C.na)) (fun f s6 q => ?_) fun _ _ z => False.elim z
      cases f with
      | ret u =>
        obtain ⟨v, σ6, H6, S6, r6, q⟩ := q
        exact gone_ok (S6.unsuite ok) hN hi hl fun s7 J7 => ⟨v, _, H6, J7, r6, q⟩
      | _ =>
        obtain ⟨σ6, H6, S6, q⟩ := q
        exact gone_ok (S6.unsuite ok) hN hi hl fun s7 J7 => ⟨_, H6, J7, q⟩
end
section
variable {X : Cx} {body : List Stmt} {h₀ : ExceptHandler} {hds : List ExceptHandler} {l : List (Value × Option Nat × TsX)} {pos : Pos} {tb : WX → TS} {Wout : WX}
theorem ps_try_mix (hs : X.stack = X.env :: X.outer) (hf : X.env.frame = some X.env.locals) (hN : X.N.Nodup) (tk : Takes X Wout)
    (hb : ∀ (W : WX) (pn : List (Addr × Obj)) (xe : Value → Shared → Prop), Takes (X.tr pn xe) W → PassesOwn (model X.prog X.w) X.A X.env xe → PSs (X.tr pn xe) body (tb W))
    (hh : HdsM X (h₀ :: hds) l) : PS X (.Try body (h₀ :: hds) [] [] pos) (fun D σ H => tb (wMix X.K Wout D l) D σ H) := by
  refine ⟨fun pins s σ H D I h => wpAny_Try_except ?_⟩
  have ok := I.ok
  have hfr : X.A.frames = some (X.env :: X.outer) := by rw [ok.frames, hs]
  refine wpAny_mono ((hb (wMix X.K Wout D l) (X.pn ++ pins) (fun e s₁ => wpAny (model X.prog X.w) X.A (noteFrame e X.env) (fun _ s₂ => wpAny (model X.prog X.w) X.A (setFlight e none) (fun _ s₃ =>
    wpAny (model X.prog X.w) X.A (handleBy e X.env (h₀ :: hds)) (SP X pins D) X.xe s₃) X.xe s₂) X.xe s₁) (fun u s' xx => ?_) PassesOwn.looking).run [] s σ H D (I.toTry _) h) (fun f s1 q => ?_) (fun e s1 he => he)
  · obtain ⟨a, B, sI, pins', σ', H', cls, d, rfl, J', nb, up, sky, na, os, ag, w⟩ := xx
    refine Sky.land (outer := X.outer) Zc.steady hfr hf (by rw [← hs]; exact sky) fun h3 fl3 up3 => ?_
    exact Air.clauses (s := { s' with heap := h3 }) ⟨J'.ofTry ok, nb, up.trans up3, fl3, na, os, ag⟩ hs hf hN tk hh w
  · cases f with
    | next =>
      obtain ⟨σ', H', J', q⟩ := q
      exact wpAny_execs_nil ⟨σ', H', J'.ofTry ok, q⟩
    | ret u =>
      obtain ⟨v, σ', H', J', r, q⟩ := q
      exact ⟨v, σ', H', J'.ofTry ok, r, q⟩
    | _ =>
      obtain ⟨σ', H', J', q⟩ := q
      exact ⟨σ', H', J'.ofTry ok, q⟩
end
/-- how the arguments bind where all are given -/
theorem binds_full {K : PySem.W.Frag} {fd : FuncData} {ps : List Str} (h : ∃ ds, Vals [] ds ∧ Binds K fd ps ds) : Binds K fd ps [] := by
  obtain ⟨ds, h1, h2⟩ := h
  cases h1
  exact h2
/-- a def's own wish about exceptions, handed to a def that it calls -/
theorem passes_up {X : Cx} {E : XK} {W : WX} (tk : Takes X W) (h : ∀ cls d σ H, E cls d H → W cls d σ H) : Passes (L2.CX X.prog X.w) X E := passes_call tk h
theorem exm_sub {K : PySem.W.Frag} {S R : Addr} {b : Bool} (h1 : PySem.W.subIn K (.ref S) (.type "BaseException") = some true) (h2 : PySem.W.isClsIn K S = true) (h3 : PySem.W.typeIn K (.ref S) = some (.type "type")) (h4 : PySem.W.subIn K (.ref R) (.ref S) = some b) :
    PySem.W.exmOne K (.ref R) (.ref S) = some b := by
  unfold PySem.W.exmOne
  rw [if_pos (by rw [h1]; rfl)]
  have e2 : ((PySem.W.clsIn K S).isSome && PySem.W.typeIn K (.ref S) == some (.type "type")) = true := by
    have e3 : (PySem.W.clsIn K S).isSome = true := h2
    rw [e3, h3]
    rfl
  show (if ((PySem.W.clsIn K S).isSome && PySem.W.typeIn K (.ref S) == some (.type "type")) = true then PySem.W.subIn K (.ref R) (.ref S) else none) = some b
  rw [if_pos e2, h4]
/-- one of two promises -/
def spX (sp bad : Sp) : Sp := fun vs H Q E => sp vs H Q E ∨ bad vs H Q E
/-- a number out of bounds -/
def spBad (lo hi : Int) (C : Addr) (fs : Int → List (Str × V)) : Sp := fun vs H _ E => ∃ n : Int, vs = [.int n] ∧ ¬ (lo ≤ n ∧ n ≤ hi) ∧ n.natAbs.log2 < 1920 ∧ ∀ d, H d = none → E (.ref C) (some d) (upd H d (.xd (fs n)))
section
variable {X : Cx} {CX : CXT} {k : Nat} {f : Addr} {fd : FuncData} {ps : List Str} {sp : Sp} {ds : List Value} {dvs : List V} {E : St → XK} {x : Str} {p pos : Pos} {e : Expr} {es : List Expr} {t : TA}
def tCallSD (sp : Sp) (dvs : List V) (E : St → XK) (t : TA) : TE := fun σ H Q => t σ H fun vs H1 => sp (vs ++ dvs) H1 Q (E σ)
/-- f(e, ..) in a try, the last arguments left out -/
theorem pe_callSD (F : FnOk X.prog X.w X.K X.mg X.base CX k f fd ps sp) (hr : Room k X.A) (hg : Gl X x) (hm : X.mg x = some (.ref f)) (hk : PySem.W.keepIn X.K (.ref f) = true) (hb : Binds X.K fd ps ds) (hd : Vals dvs ds) (hx : ∀ σ, PassesAt CX X σ (E σ))
    (ha : PA X (e :: es) t) (hdb : (x == ("__debug__" : Str)) = false := by decide) (he : starEach (e :: es) X.env = (false, eval e X.env) :: starEach es X.env := by rfl) (hpl : (backTo pos (starEach es X.env)).any (·.1) = false := by rfl) :
    PE X (.Call (.Name x p) (e :: es) [] pos) (tCallSD sp dvs E t) := by
  refine ⟨fun pins s σ H Q I h => ?_⟩
  refine wpAny_Call_Name_kw (ld_glob I hg hm ?_ hdb)
  refine PySem.W.callWith_K (h₀ := X.base) I.ok.mod.kin hk (thn (ha.run pos pins s σ H _ I h) fun us s1 ⟨vs, H1, I1, r, q⟩ => ⟨I1.kIn, ?_⟩) he hpl
  have r2 : Vals (vs ++ dvs) (us ++ ds) := r.append hd
  have hl : (us ++ ds).length = ps.length := by rw [← r2.length]; exact F.len _ _ _ _ q
  refine wpAny_call (codeAny_mono (F.run X.A X.stack s1 H1 ⟨us, []⟩ (us ++ ds) (vs ++ dvs) Q (E σ) hr I1.env0 (hb s1 us I1.kIn hl) r2 q) fun r s' hq => ?_)
  cases r with
  | error e => exact hx σ pins H1 s1 e s' I1 hq
  | ok fl =>
    cases fl with
    | ret u => exact I1.after hq
    | next => exact False.elim hq
    | brk => exact False.elim hq
    | cont => exact False.elim hq
end
end L2

set_option Elab.async false
set_option linter.all false
set_option maxRecDepth 100000
set_option maxHeartbeats 4000000
/-! enumerate of a tuple from a count on; get of a written dict -/
namespace L2
open PySem PySem.Spec PySem.Calls PyProof.Rows
/-- count and item of the tuple at a, in a new pair each turn -/
def ItC (K : PySem.W.Frag) (a : Addr) (c : Int) : It where
  go i H := ∃ (us : List V) (u : V), SqT K H a us ∧ us[i]? = some u
  yld i H v H' := ∃ p u, v = .ref p ∧ H p = none ∧ H' = upd H p (.tup [.int (c + (i : Nat)), u]) ∧ ∀ us, SqT K H a us → us[i]? = some u
  stop i H := ∃ us : List V, SqT K H a us ∧ us.length = i
def CtSt (a e j : Addr) (c : Int) (i : Nat) (h : Heap) : Prop := (∃ old, IsEnum h e j (c + (i : Int)) old) ∧ h.IsTupleIter j a i ∧ e ≠ j
theorem tupNe {h : Heap} {a j : Addr} {i : Nat} {us : Array Value} (p : h.IsTuple a us) (q : h.IsTupleIter j a i) : a ≠ j := fun z => by
  obtain ⟨o, ho, hc, _⟩ := p
  obtain ⟨o2, ho2, hc2, _⟩ := q
  rw [← z, ho] at ho2
  cases ho2
  rw [hc] at hc2
  injection hc2 with z2
  exact absurd z2 (by decide)
theorem tupNeE {h : Heap} {a e j : Addr} {c : Int} {old : Value} {us : Array Value} (p : h.IsTuple a us) (q : IsEnum h e j c old) : e ≠ a := fun z => by
  obtain ⟨o, ho, hc, _⟩ := p
  have q' : h.get? e = some _ := q
  rw [z, ho] at q'
  cases q'
  injection hc with z2
  exact absurd z2 (by decide)
theorem turn_count {P : Program} {w : World} {K : PySem.W.Frag} {es : List Expr} {n : Nat} {pos : Pos} (a e j : Addr) (c : Int) : Turn P w K (.Tuple es n pos) (ItC K a c) [e, j] e (CtSt a e j c) where
  mem := List.mem_cons_self
  obj := fun i h ⟨⟨old, he⟩, ⟨o, ho, _, hd⟩, _⟩ b hb => by
    have hb : b = e ∨ b = j := by simpa using hb
    rcases hb with rfl | rfl
    · exact ⟨_, he, fun v q => nomatch q⟩
    · exact ⟨o, ho, fun v q => by rw [hd] at q; cases q⟩
  keep := fun i h h' ⟨⟨old, he⟩, hj, ne⟩ k => ⟨⟨old, k e (by simp) _ he⟩, hj.at fun o q => k j (by simp) o q, ne⟩
  item := by
    intro X hP hw hK calm i pins s σ H E I free st go
    subst hP hw hK
    obtain ⟨⟨old, he⟩, hj, ne⟩ := st
    obtain ⟨us, u, hus, hu⟩ := go
    obtain ⟨ws, rv, pt, hz⟩ := I.tuple hus
    have pt' : s.heap.IsTuple a ws.toArray := pt
    obtain ⟨v, hv, ru⟩ := rv.get hu
    have aj := tupNe pt' hj
    have ea := tupNeE pt' he
    have le : e < s.heap.objs.size := Heap.lt_size he
    have lj : j < s.heap.objs.size := by
      obtain ⟨_, q, _⟩ := hj
      exact Heap.lt_size q
    have hi : i < ws.toArray.size := by
      rw [List.size_toArray]
      exact (List.getElem?_eq_some_iff.mp hv).1
    have D := Draws.tuple (prog := X.prog) (w := X.w) (A := X.A.in1) (show X.A.in1.handled = none from I.ok.hd calm) j a aj ws.toArray
    refine wpAny_pyNext_enum_itemC D he ⟨hj, pt'⟩ hi ne (by simpa using ⟨ne, ea⟩) fun x h1 tk hx he1 hj1 hT hsz keep => ?_
    have hxv : x = v := by
      have hx : ws.toArray[i]? = some x := hx
      rw [List.getElem?_toArray, hv] at hx
      exact (Option.some.inj hx).symm
    subst hxv
    refine ⟨_, rfl, wpAny_letOwnedTupleGo_enum (s := { s with heap := h1, toks := tk + 1 }) he1 fun h2 he2 sb => ?_⟩
    have hT2 : h2.get? s.heap.objs.size = some { cls := .type "tuple", data := .seq #[.int (c + (i : Int)) tk, x] } := (sb.2 _ (Nat.ne_of_gt le)).trans hT
    have made : ObjOk X.prog X.w (upd H s.heap.objs.size (.tup [.int (c + (i : Nat)), u])) h2 s.heap.objs.size (.tup [.int (c + (i : Nat)), u]) :=
      ⟨by show 2 ≤ sizeLine; decide, [.int (c + (i : Int)) tk, x], .cons ⟨_, rfl⟩ (.cons ru .nil), ⟨_, hT2, rfl, _, rfl⟩⟩
    have I1 : Inv X pins σ (upd H s.heap.objs.size (.tup [.int (c + (i : Nat)), u])) { s with heap := h2, toks := tk + 1 } :=
      I.turnedNew (ch := [e, j]) (fun b ob hb q => (sb.2 b fun z => hb (by simp [z])).trans (keep b ob (fun z => hb (by simp [z])) (fun z => hb (by simp [z])) q)) free (Nat.le_refl _) made
    refine ⟨.ref s.heap.objs.size, _, I1, rfl, ⟨_, u, rfl, I.hok.fresh (Nat.le_refl _), rfl, fun ys hy => by rw [I.tuple_inj hy hus]; exact hu⟩, ⟨⟨x, ?_⟩, hj1.1.at fun o q => (sb.2 j (Ne.symm ne)).trans q, ne⟩, fun b hb => ?_⟩
    · have e1 : c + ((i + 1 : Nat) : Int) = c + (i : Int) + 1 := by omega
      rw [e1]
      exact he2
    · have lb : b < s.heap.objs.size := by
        have hb : b = e ∨ b = j := by simpa using hb
        rcases hb with q | q <;> rw [q] <;> assumption
      rw [upd_ne (Nat.ne_of_lt lb)]
      exact (free b hb).1
  done := by
    intro X hP hw hK calm i pins s σ H E I free st stop
    subst hP hw hK
    obtain ⟨⟨old, he⟩, hj, ne⟩ := st
    obtain ⟨us, hus, hi⟩ := stop
    obtain ⟨ws, rv, pt, hz⟩ := I.tuple hus
    have pt' : s.heap.IsTuple a ws.toArray := pt
    obtain ⟨f0, f1, f2, f3, f4, f5⟩ := free j (by simp)
    have aj := tupNe pt' hj
    have hi' : i = ws.toArray.size := by
      rw [List.size_toArray, ← rv.length]
      exact hi.symm
    subst hi'
    exact wpAny_pyNext_enum_endD (Draws.tuple (prog := X.prog) (w := X.w) (A := X.A.in1) (show X.A.in1.handled = none from I.ok.hd calm) j a aj ws.toArray) he ⟨hj, pt'⟩ fun h1 kp => ⟨rfl, I.turned (t' := s.toks) (fun b o hb q => kp b o hb q) f0 f1 f3 f4 f5⟩
  self := fun A i s Q E st h => let ⟨⟨_, he⟩, _⟩ := st; wpAny_pyIter_enum he h
def iCnt (K : PySem.W.Frag) (c : Int) (ta : TA) : TI := fun σ H R => ta σ H fun vs H1 => ∃ a, vs = [.ref a] ∧ (∃ us, SqT K H1 a us) ∧ R (ItC K a c) H1
/-- for i, x in enumerate(t, start=c), t a tuple, c written -/
theorem pi_count {X : Cx} {e : Expr} {ta : TA} {c : Int} {p pos tpos : Pos} {es : List Expr} {n : Nat} {kws : List Keyword} (hg : Gl X "enumerate") (hm : X.mg "enumerate" = none) (ha : PA X [e] ta) (hk : PK X kws (tCons (tC (.int c)) tNil)) (hc : -(2 ^ 63) ≤ c ∧ c < 2 ^ 63)
    (he : backTo pos (starEach [e] X.env) = (false, eval e X.env) :: backTo pos (starEach [] X.env) := by rfl) (hp : (backTo pos (starEach [e] X.env)).any (·.1) = false := by rfl)
    (hall : (backToKw pos (keywordEach kws X.env)).all (·.1.isSome) = true := by rfl) (hnone : (backToKw pos (keywordEach kws X.env)).any (·.1.isNone) = false := by rfl) (hks : (backToKw pos (keywordEach kws X.env)).filterMap (·.1) = [Str.ofString "start"] := by rfl) :
    PI X (.Tuple es n tpos) (.Call (.Name "enumerate" p) [e] kws pos) (iCnt X.K c ta) := by
  refine ⟨fun pins s σ H R I h => ?_⟩
  refine wpAny_Call_Name_kw (ld_blt I hg hm boot_enumerate ?_)
  refine Z.callTyS (thn (ha.run pos pins s σ H _ I h) fun us s1 ⟨vs, H1, I1, r1, a, ev, ⟨zs, hz⟩, k⟩ => thn (hk.run pos pins s1 σ H1 (fun vs H2 => vs = [.int c] ∧ H2 = H1) I1 ⟨rfl, rfl⟩) fun ws s2 ⟨zs2, H2, I2, r2, ez, eH⟩ => ?_) he hp hall hnone
  subst ev ez eH
  rw [hks]
  cases r1 with
  | cons ra rr =>
    cases rr
    cases ra
    cases r2 with
    | cons rc rr =>
      cases rr
      obtain ⟨tk, rfl⟩ := rc
      obtain ⟨its, rv, pt, _⟩ := I2.tuple hz
      have pt' : s2.heap.IsTuple a its.toArray := pt
      refine enum_begins_start (begins_tuple a its.toArray) pt' hc.1 hc.2 fun h1 he1 hj hsz kp => wpAny_pyIter_enum he1 ?_
      have I3 : Inv X pins σ H2 { s2 with heap := h1 } := I2.kept (t' := s2.toks) kp
      have e0 : c + ((0 : Nat) : Int) = c := by omega
      refine ⟨s2.heap.objs.size + 1, [s2.heap.objs.size + 1, s2.heap.objs.size], CtSt a (s2.heap.objs.size + 1) s2.heap.objs.size c, _, H2, rfl, I3, turn_count a (s2.heap.objs.size + 1) s2.heap.objs.size c, ⟨⟨.none, by rw [e0]; exact he1⟩, ⟨_, hj, rfl, rfl⟩, Nat.succ_ne_self _⟩, fun b hb => ?_, k⟩
      have le : s2.heap.objs.size ≤ b := by
        have hb : b = s2.heap.objs.size + 1 ∨ b = s2.heap.objs.size := by simpa using hb
        rcases hb with q | q <;> rw [q] <;> first | exact Nat.le_add_right _ _ | exact Nat.le_refl _
      exact I2.fpOk le (I2.hok.fresh le)
theorem walk_count {K : PySem.W.Frag} {a : Addr} {c : Int} {xs : List V} : Walk (ItC K a c) xs.length (fun H => SqT K H a xs) (YPair (fun i => some (.int (c + (i : Nat)))) (fun i => xs[i]?)) := by
  refine ⟨fun i _ hi q => ⟨xs, xs[i], q, by simp [hi]⟩, fun _ q => ⟨xs, q, rfl⟩, fun i H v H' _ q y => ?_⟩
  obtain ⟨p, u, h1, h2, h3, h4⟩ := y
  exact ⟨p, .int (c + (i : Nat)), u, h1, h2, h3, rfl, h4 xs q⟩
theorem s_iCnt {K : PySem.W.Frag} {c : Int} {ta : TA} {σ : St} {H : Hp} {R : It → Hp → Prop} (k : ta σ H fun vs H1 => ∃ a, vs = [.ref a] ∧ (∃ us, SqT K H1 a us) ∧ R (ItC K a c) H1) : iCnt K c ta σ H R := k
/-! get of a written dict -/
/-- a dict that stands in the module, its keys texts -/
def KDic (K : PySem.W.Frag) (w : World) (a : Addr) : Prop := ∃ es n, K.lookup a = some ⟨.type "dict", none, .dict es n, #[]⟩ ∧ PySem.W.KeysLit w.params es.toList ∧ (a == sysModules) = false
def tKGet (K : PySem.W.Frag) (w : World) (td tk : TE) : TE := fun σ H Q => td σ H fun x H1 => ∃ a, x = .ref a ∧ KDic K w a ∧ tk σ H1 fun y H2 => ∃ z, y = .str z ∧ ((∃ v, KDct K w a z v ∧ Q v H2) ∨ (KMiss K w a z ∧ Q .non H2))
theorem pe_kget {X : Cx} {d k : Expr} {td tk : TE} {apos cpos : Pos} (hd : PE X d td) (hk : PE X k tk) (m : M1 X d "get" apos k cpos) : PE X (.Call (.Attribute d "get" apos) [k] [] cpos) (tKGet X.K X.w td tk) := by
  refine ⟨fun pins s σ H Q I h => ?_⟩
  refine wpAny_Call_method m.base m.few m.line PySem.F.plainAttrs_dict PySem.F.slot_dict_get PySem.F.type_dict_get (thn (hd.run pins s σ H _ I h) fun u s1 ⟨x, H1, I1, rx, a, ex, ⟨es, n, hl, hkl, low⟩, q1⟩ => ?_)
  subst ex
  obtain rfl : u = Value.ref a := rx
  have mp := PySem.W.mapOf_K (prog := X.prog) (w := X.w) I1.kIn hl hkl
  refine ⟨mp.typeIs, fun b q => ?_, ?_⟩
  · cases q
    obtain ⟨o, _, _, h1, h2, _⟩ := mp
    exact ⟨o, h1, h2.2.1⟩
  rw [m.trees]
  refine Calls.callWith_builtin rfl (Calls.evalArgs_plain (Calls.spliced_cons (thn (hk.run pins s1 σ H1 _ I1 q1) fun iv s2 ⟨y, H2, I2, ry, z, ey, g⟩ => Calls.spliced_nil ?_)))
  subst ey
  obtain ⟨t, rfl⟩ := (show ∃ t, iv = Value.str z t from ry)
  have mp2 := PySem.W.mapOf_K (prog := X.prog) (w := X.w) I2.kIn hl hkl
  refine call_meetsIn PySem.F.slot_dict_get mp2.typeIs PySem.F.entry_dict_get (PySem.F.args_dict_get_2 _ _) (meets_dict_get (strKind X.prog X.w) a (strKind_is X.prog X.w z t) low) ⟨_, mp2, ?_⟩
  rcases g with ⟨v, ⟨es2, n2, u0, hl2, _, e, ru⟩, q⟩ | ⟨⟨es2, n2, hl2, _, _, e⟩, q⟩
  · rw [PySem.W.find_K hl e]
    exact ⟨v, H2, I2.tok _, ru, q⟩
  · rw [PySem.W.find_K hl e]
    exact ⟨.non, H2, I2.tok _, rfl, q⟩
/-! d.update(e): both tracked, their keys ints and texts -/
def tDUpd (td te : TE) : TE := fun σ H Q => td σ H fun x H1 => ∃ a, x = .ref a ∧ IsD H1 a ∧ te σ H1 fun y H2 => ∃ b kvs more, y = .ref b ∧ a ≠ b ∧ H2 a = some (.dK kvs) ∧ H2 b = some (.dK more) ∧ kvs.length + more.length ≤ 10000 ∧ Q .non (upd H2 a (.dK (mergeK kvs more)))
theorem pe_dupd {X : Cx} {d e : Expr} {td te : TE} {apos cpos : Pos} (hd : PE X d td) (he : PE X e te) (m : M1 X d "update" apos e cpos) : PE X (.Call (.Attribute d "update" apos) [e] [] cpos) (tDUpd td te) := by
  refine ⟨fun pins s σ H Q I h => ?_⟩
  refine wpAny_Call_method m.base m.few m.line PySem.F.plainAttrs_dict PySem.F.slot_dict_update PySem.F.type_dict_update (thn (hd.run pins s σ H _ I h) fun u s1 ⟨x, H1, I1, rx, a, ex, dd, q1⟩ => ?_)
  subst ex
  obtain rfl : u = Value.ref a := rx
  obtain ⟨t1, t2, _⟩ := isD_at I1 dd
  refine ⟨t1, t2, ?_⟩
  rw [m.trees]
  refine Calls.callWith_builtin rfl (Calls.evalArgs_plain (Calls.spliced_cons (thn (he.run pins s1 σ H1 _ I1 q1) fun iv s2 ⟨y, H2, I2, ry, b, kvs, more, ey, ne, ha, hb, hz, q2⟩ => Calls.spliced_nil ?_)))
  subst ey
  obtain rfl : iv = Value.ref b := ry
  obtain ⟨_, lowA, va, ra, da⟩ := dk_of I2.hok ha
  obtain ⟨_, lowB, vb, rb, db⟩ := dk_of I2.hok hb
  have zl : (mergeK kvs more).length ≤ sizeLine := Nat.le_trans (length_mergeK more kvs) (Nat.le_trans hz (by decide))
  refine call_meetsIn PySem.F.slot_dict_update da.typeIs PySem.F.entry_dict_update (PySem.F.args_dict_update_2 _ _) (meets_dict_update (mixKind X.prog X.w) a b ne lowB)
    ⟨va, vb, da, db, by rw [← ra.length, ← rb.length]; exact Nat.le_trans hz (by decide), fun h' da' db' sb => ?_⟩
  have hex : ∃ q, h'.get? a = some q := let ⟨q, _, _, hq, _⟩ := da'; ⟨q, hq⟩
  exact ⟨.non, _, d_write (t' := s2.toks) I2 (by rw [ha]; exact True.intro) sb hex (dk_new zl lowA (rb.merge ra) da'), rfl, q2⟩
theorem s_dupd {td te : TE} {σ : St} {H : Hp} {Q : VK} (k : td σ H fun x H1 => ∃ a, x = .ref a ∧ IsD H1 a ∧ te σ H1 fun y H2 => ∃ b kvs more, y = .ref b ∧ a ≠ b ∧ H2 a = some (.dK kvs) ∧ H2 b = some (.dK more) ∧ kvs.length + more.length ≤ 10000 ∧ Q .non (upd H2 a (.dK (mergeK kvs more)))) : tDUpd td te σ H Q := k
theorem s_kget {K : PySem.W.Frag} {w : World} {td tk : TE} {σ : St} {H : Hp} {Q : VK} (k : td σ H fun x H1 => ∃ a, x = .ref a ∧ KDic K w a ∧ tk σ H1 fun y H2 => ∃ z, y = .str z ∧ ((∃ v, KDct K w a z v ∧ Q v H2) ∨ (KMiss K w a z ∧ Q .non H2))) : tKGet K w td tk σ H Q := k
end L2
namespace Z
open L2 PySem PySem.Spec
section
variable {K : PySem.W.Frag} {nx : L2.St → Hp → Prop} {rt : VK} {ts : TS} {σ : L2.St} {H : Hp} {g : TG} {a : Addr} {c : Int}
theorem l_cnt (xs : List V) (Pv : Nat → L2.St → Hp → Prop) (h0 : Pv 0 σ H) (hG : ∀ i σ H, i ≤ xs.length → Pv i σ H → SqT K H a xs)
    (hs : ∀ (i : Nat) x t σ H H', xs[i]? = some x → Pv i σ H → H t = none → Ex H H' → H' t = some (.tup [.int (c + (i : Nat)), x]) → g (.ref t) σ H' fun σ2 H2 => ts ⟨Pv (i + 1), rt, nx, Pv (i + 1)⟩ σ2 H2) (hd : ∀ σ H, Pv xs.length σ H → nx σ H) :
    ∃ a', [V.ref a] = [.ref a'] ∧ (∃ us, SqT K H a' us) ∧ Loops (ItC K a' c) g ts nx rt σ H :=
  ⟨a, rfl, ⟨xs, hG 0 σ H (Nat.zero_le _) h0⟩, loops_of walk_count Pv h0 hG (fun i x σ H H' hi p y => by
    obtain ⟨t, u, v, rfl, ht, rfl, hx, hy⟩ := y
    cases hx
    exact hs i v t σ H _ hy p ht (Ex.new ht) upd_same) hd⟩
theorem c_cnt {tt : TT} {te : TE} {vs : List Nat} {Q : VK} (xs : List V) (h : SqT K H a xs) (Iv : Addr → Hp → Prop) (R : Addr → Nat → List V → Hp → Prop)
    (h0 : ∀ D H', H D = none → Ex H H' → H' D = some (.lst []) → Iv D H' ∧ R D 0 [] H') (hG : ∀ D H', Iv D H' → SqT K H' a xs)
    (hs : ∀ D (i : Nat) l H1 H2 t x, xs[i]? = some x → Iv D H1 → H1 D = some (.lst l) → l.length ≤ i → R D i l H1 → H1 t = none → Ex H1 H2 → H2 t = some (.tup [.int (c + (i : Nat)), x]) → g (.ref t) (wipe σ vs) H2 fun σ2 H2 => wipe σ2 vs = wipe σ vs ∧ tt σ2 H2 fun b H3 =>
      if b = true then te σ2 H3 fun y H4 => ∃ acc, H4 D = some (.lst acc) ∧ acc.length < sizeLine ∧ Cv Iv R D (i + 1) (upd H4 D (.lst (acc ++ [y]))) else Cv Iv R D (i + 1) H3)
    (hd : ∀ D l H', Iv D H' → H' D = some (.lst l) → l.length ≤ xs.length → R D xs.length l H' → Q (.ref D) H') :
    ∃ a', [V.ref a] = [.ref a'] ∧ (∃ us, SqT K H a' us) ∧ LcW (ItC K a' c) g tt te vs σ H Q :=
  ⟨a, rfl, ⟨xs, h⟩, c_it walk_count Iv R h0 hG (fun D i l H1 x H1' hi a hl hz r y => by
    obtain ⟨t, u, v, rfl, ht, rfl, hx, hy⟩ := y
    cases hx
    exact hs D i l H1 _ t v hy a hl hz r ht (Ex.new ht) upd_same) hd⟩
end
end Z

set_option Elab.async false
set_option linter.all false
set_option maxRecDepth 100000
set_option maxHeartbeats 4000000
/-! a call of what a list of defs holds -/
namespace L2
open PySem PySem.Spec PySem.Calls PyProof.Rows
/-- the def at f keeps sp, at most n deep -/
structure HeldX (P : Program) (w : World) (K : PySem.W.Frag) (mg : Str → Option Value) (base : Heap) (CX : CXT) (n : Nat) (f : Addr) (sp : Sp) : Prop where
  ex : ∃ (k : Nat) (fd : FuncData) (ps : List Str), k ≤ n ∧ FnOk P w K mg base CX k f fd ps sp ∧ PySem.W.keepIn K (.ref f) = true ∧ Binds K fd ps []
def tCallV (S : Addr → Sp → Prop) (E : St → XK) (tf : TE) (t : TA) : TE := fun σ H Q => tf σ H fun x H1 => ∃ f sp, x = .ref f ∧ S f sp ∧ t σ H1 fun vs H2 => sp vs H2 Q (E σ)
theorem call_sub (a b : Expr) (p : Pos) (args : List Expr) (kws : List Keyword) (pos : Pos) (env : Env) : eval (.Call (.Subscript a b p) args kws pos) env = (do
    callWith pos (← eval (.Subscript a b p) env) [] (backTo pos (starEach args env)) (backToKw pos (keywordEach kws env))) := rfl
theorem pe_callV {X : Cx} {CX : CXT} {n : Nat} {S : Addr → Sp → Prop} {E : St → XK} {a b e : Expr} {es : List Expr} {p pos : Pos} {tf : TE} {t : TA} (hf : PE X (.Subscript a b p) tf) (A : ∀ f sp, S f sp → HeldX X.prog X.w X.K X.mg X.base CX n f sp)
    (hr : Room n X.A) (hx : ∀ σ, PassesAt CX X σ (E σ)) (ha : PA X (e :: es) t) (he : starEach (e :: es) X.env = (false, eval e X.env) :: starEach es X.env := by rfl) (hpl : (backTo pos (starEach es X.env)).any (·.1) = false := by rfl) :
    PE X (.Call (.Subscript a b p) (e :: es) [] pos) (tCallV S E tf t) := by
  refine ⟨fun pins s σ H Q I h => ?_⟩
  rw [call_sub]
  refine wpAny_bind (thn (hf.run pins s σ H _ I h) fun u s1 ⟨x, H1, I1, r1, f, sp, ex, hS, q1⟩ => ?_)
  subst ex
  obtain rfl : u = Value.ref f := r1
  obtain ⟨k, fd, ps, hkn, F, hk, hb⟩ := (A f sp hS).ex
  refine PySem.W.callWith_K (h₀ := X.base) I1.ok.mod.kin hk (thn (ha.run pos pins s1 σ H1 _ I1 q1) fun us s2 ⟨vs, H2, I2, r, q⟩ => ⟨I2.kIn, ?_⟩) he hpl
  exact run_fnS F (hr.mono hkn) hb (hx σ) I2 r q
theorem s_callV {S : Addr → Sp → Prop} {E : St → XK} {tf : TE} {t : TA} {σ : St} {H : Hp} {Q : VK} (k : tf σ H fun x H1 => ∃ f sp, x = .ref f ∧ S f sp ∧ t σ H1 fun vs H2 => sp vs H2 Q (E σ)) : tCallV S E tf t σ H Q := k
end L2

set_option Elab.async false
set_option maxRecDepth 100000
set_option maxHeartbeats 4000000
set_option linter.all false
namespace Q
open PySem L2 Z
def top (i : Nat) : Stmt := PySem.Challenge.pw_pikeroll_k16_gates_that_bar_and_ways_rou.main.body.getD i (.Pass ⟨0, 0, 0, 0⟩)
abbrev s_p_is_number : Stmt := top 6
abbrev s_p_is_good : Stmt := top 7
abbrev s_p_need_net : Stmt := top 10
abbrev s_p_need_place : Stmt := top 11
abbrev s_p_far_end : Stmt := top 12
abbrev s_p_way_round : Stmt := top 13
abbrev s_p_barred : Stmt := top 14
abbrev s_l_bag : Stmt := top 16
abbrev s_l_pull : Stmt := top 17
abbrev s_l_like : Stmt := top 19
abbrev s_l_far : Stmt := top 20
abbrev s_l_gate : Stmt := top 21
abbrev s_l_num : Stmt := top 18
abbrev s_l_net : Stmt := top 22
abbrev s_l_net_ok : Stmt := top 23
abbrev s_l_bent_net : Stmt := top 24
abbrev s_l_roads : Stmt := top 25
abbrev s_l_place : Stmt := top 26
abbrev s_l_told : Stmt := top 27
abbrev s_l_far_off : Stmt := top 28
abbrev s_l_way_ok : Stmt := top 29
abbrev s_c_PikeError_init : Stmt := inClass (top 1) 0
abbrev s_law : Stmt := top 30

local macro_rules | `(tactic| walk_at "z0") => `(tactic| try dsimp only [L2.cxOf, L2.Cx.nox, L2.Cx.wish])
local macro_rules | `(tactic| walk_at "zside") => `(tactic| first
  | decide | omega | exact ⟨by omega, by omega⟩ | exact Or.inr ⟨by omega, by omega⟩ | exact Or.inl ⟨by omega, by omega⟩ | exact ⟨by decide, by decide⟩ | exact ⟨by decide, by decide, by decide⟩ | (dsimp only; omega))
local macro_rules | `(tactic| walk_at "zex") => `(tactic| first | assumption | exact Ex.refl | (refine Ex.trans ?_ (by assumption); walk_at "zex"))
local macro_rules | `(tactic| walk_at "zbag") => `(tactic| first | assumption | (apply Bag.ext; assumption; walk_at "zex"))
local macro_rules | `(tactic| walk_at "zne") => `(tactic| first | assumption | exact Ne.symm (by assumption) | (apply neb_of; assumption; walk_at "zbag") | (apply nec_of; assumption; walk_at "zbag"))
local macro_rules | `(tactic| walk_at "zhp") => `(tactic| first | assumption | exact upd_same | (refine upd_at ?_ ?_; (focus (walk_at "zne")); walk_at "zhp") | (apply ex_at; assumption; walk_at "zhp") | (apply fr_at; assumption; (focus (walk_at "zne")); walk_at "zhp"))
local macro_rules | `(tactic| walk_at "zkb") => `(tactic| first | with_reducible exact kb_int_tuple | with_reducible exact kb_int_list | with_reducible exact kb_int_bool | with_reducible exact kb_int_int | with_reducible exact kb_str_tuple | with_reducible exact kb_str_list | with_reducible exact kb_str_bool | with_reducible exact kb_str_int | with_reducible exact kb_bool_tuple | with_reducible exact kb_bool_list | with_reducible exact kb_bool_bool | with_reducible exact kb_bool_int | with_reducible exact kb_NoneType_tuple | with_reducible exact kb_NoneType_list | with_reducible exact kb_NoneType_bool | with_reducible exact kb_NoneType_int | with_reducible exact kb_tuple_tuple | with_reducible exact kb_tuple_list | with_reducible exact kb_tuple_bool | with_reducible exact kb_tuple_int | with_reducible exact kb_list_tuple | with_reducible exact kb_list_list | with_reducible exact kb_list_bool | with_reducible exact kb_list_int)
local macro_rules | `(tactic| walk_at "zsz") => `(tactic| first | exact sz (by decide) | exact sz (by simp) | exact sz (by omega))
local macro_rules | `(tactic| walk_at "zex") => `(tactic| first | assumption | exact Ex.refl | (refine Ex.trans ?_ (by assumption); walk_at "zex"))
local macro_rules | `(tactic| walk_at "zsL") => `(tactic| first | exact SqL.of (by walk_at "zhp") | assumption | (apply sqL_ex; assumption; walk_at "zex"))
local macro_rules | `(tactic| walk_at "zsT") => `(tactic| first | exact SqT.of (by walk_at "zhp") | assumption | (apply sqT_ex; assumption; walk_at "zex"))
local macro_rules | `(tactic| walk_at "zsq") => `(tactic| first | walk_at "zsL" | walk_at "zsT" | (apply Or.inl; walk_at "zsL") | (apply Or.inr; walk_at "zsT"))
local macro_rules | `(tactic| walk_at "zty") => `(tactic| first | assumption | exact .base (.int _) | exact .base (.bl _) | exact .base (.str _) | exact .base .non | exact ty_sqT (by walk_at "zsq") | exact ty_sqL (by walk_at "zsq"))
local macro_rules | `(tactic| walk_at "zbag") => `(tactic| first | assumption | (apply Bag.ext; assumption; walk_at "zex"))
local macro_rules | `(tactic| walk_at "zpull") => `(tactic| (apply use_pull; (focus (walk_at "zbag")); (focus (first | exact ⟨by decide, by decide⟩ | exact ⟨by omega, by omega⟩ | (exact ⟨by simp; omega, by simp; omega⟩))); intro _ _ _ _ _ _))
local macro_rules | `(tactic| walk_at "zin") => `(tactic| repeat (first | exact intIn_nil | (refine intIn_cons ⟨?_, ?_⟩ ?_; (focus omega); (focus omega)) | (refine intIn_cons ?_ ?_; (focus (first | assumption | exact ⟨by omega, by omega⟩)))))
local macro_rules | `(tactic| walk_at "zfr") => `(tactic| first | assumption | exact Fr.refl | (refine Fr.trans ?_ (by assumption); walk_at "zfr") | (refine Fr.trans ?_ (Ex.fr _ (by assumption)); walk_at "zfr"))
local macro_rules | `(tactic| walk_at "zdp") => `(tactic| repeat' (first | exact DpAll.nil | apply DpAll.cons | exact Dp.int _ | exact Dp.str _ | exact Dp.bl _ | exact Dp.non | assumption))
local macro_rules | `(tactic| walk_at "zR") => `(tactic| first | assumption | exact ⟨by omega, by omega⟩)
local macro_rules | `(tactic| walk_at "z1") => `(tactic| first
  | ((with_reducible apply s_var); exact rfl)
  | with_reducible refine s_C ?_
  | with_reducible refine s_op ?_
  | ((with_reducible apply s_rI); (focus (walk_at "zside")))
  | with_reducible refine s_rI0 ?_
  | with_reducible refine s_rEqI ?_
  | with_reducible refine s_rNeI ?_
  | with_reducible refine s_rEqS ?_
  | with_reducible refine s_rNeS ?_
  | with_reducible refine s_rEqB ?_
  | with_reducible refine s_rNeB ?_
  | ((with_reducible apply s_ixL); (focus (walk_at "zsq")); (focus (exact rfl)))
  | ((with_reducible apply s_ixT); (focus (walk_at "zsq")); (focus (exact rfl)))
  | ((with_reducible apply s_rLen); (focus (walk_at "zsq")))
  | with_reducible refine s_rAbs ?_
  | with_reducible refine s_rMax2 ?_
  | with_reducible refine s_rMin2 ?_
  | with_reducible refine s_rInt1 ?_
  | with_reducible refine s_rIntB ?_
  | with_reducible refine s_rIsN ?_
  | with_reducible refine s_rNotN ?_
  | with_reducible refine s_rFind ?_
  | ((with_reducible apply s_newS); (focus (walk_at "zsz")); intro _ _ _ _ _)
  | ((with_reducible apply s_new); intro _ _ _ _ _)
  | ((with_reducible apply s_slL); (focus (walk_at "zsq")))
  | ((with_reducible apply s_isi); (focus (walk_at "zty")); (focus (walk_at "zkb")))
  | ((with_reducible apply s_isiTL); (focus (walk_at "zhp")); (focus (walk_at "zty")); (focus (walk_at "zkb")); (focus (walk_at "zkb")))
  | ((with_reducible apply s_rListOf); (focus (walk_at "zsq")))
  | ((with_reducible apply s_rTupleOf); (focus (walk_at "zsq")))
  | ((with_reducible apply s_rDivmod); (focus (walk_at "zside")))
  | ((with_reducible apply s_rRjust); (focus (exact rfl)))
  | ((with_reducible apply s_rEq); (focus (exact rfl)))
  | ((with_reducible apply s_rNe); (focus (exact rfl)))
  | with_reducible refine s_tB ?_
  | with_reducible refine s_tTest ?_
  | with_reducible refine s_bl ?_
  | with_reducible refine s_nil ?_
  | with_reducible refine s_cons ?_
  | with_reducible refine s_CB ?_
  | with_reducible refine s_call ?_
  | walk_at "zpull"
  | ((with_reducible apply use_int); (focus (walk_at "zbag")); intro _ _ _ _ _ _)
  | with_reducible refine s_seq ?_
  | ((with_reducible refine s_set ?_); try dsimp only [List.set_cons_zero, List.set_cons_succ])
  | with_reducible refine s_ifS ?_
  | with_reducible refine s_ret ?_
  | with_reducible refine s_drop ?_
  | with_reducible refine s_next ?_
  | with_reducible refine s_and ?_
  | with_reducible refine s_or ?_
  | with_reducible refine s_not ?_
  | with_reducible refine s_andV ?_
  | with_reducible refine s_orV ?_
  | with_reducible refine s_notV ?_
  | with_reducible refine s_ifE ?_
  | with_reducible refine s_un ?_
  | with_reducible refine s_rU ?_
  | with_reducible refine s_chain ?_
  | with_reducible refine s_tup ?_
  | with_reducible refine s_lst ?_
  | with_reducible refine s_sl ?_
  | with_reducible refine s_noPart ?_
  | with_reducible refine s_part ?_
  | with_reducible refine s_partI ?_
  | ((with_reducible refine s_gName ?_); try dsimp only [List.set_cons_zero, List.set_cons_succ])
  | with_reducible refine s_gSub ?_
  | ((with_reducible apply s_gTup); (focus (walk_at "zsq")); (focus (exact rfl)))
  | with_reducible refine s_gCons ?_
  | with_reducible refine s_gNil ?_
  | with_reducible refine s_asg ?_
  | with_reducible refine s_par ?_
  | ((with_reducible refine s_parI ?_); try dsimp only [List.set_cons_zero, List.set_cons_succ])
  | with_reducible refine s_fld ?_
  | with_reducible refine s_bm ?_
  | with_reducible refine s_bm0 ?_
  | with_reducible refine s_m0 ?_
  | with_reducible refine s_m1 ?_
  | with_reducible refine s_for ?_
  | with_reducible refine s_iRng1 ?_
  | with_reducible refine s_iRng2 ?_
  | with_reducible refine s_iList ?_
  | with_reducible refine s_iTup ?_
  | with_reducible refine s_iStr ?_
  | with_reducible refine s_iEnum ?_
  | with_reducible refine ite_t ?_
  | with_reducible refine ite_f ?_
  | with_reducible refine s_isStr ?_
  | with_reducible refine s_callS ?_
  | with_reducible refine s_rNotInS ?_
  | with_reducible refine s_rInS ?_
  | with_reducible refine s_tFmt ?_
  | with_reducible refine s_tFS ?_
  | with_reducible refine s_jsNil ?_
  | with_reducible refine s_jsCons ?_
  | with_reducible refine s_tRevL ?_
  | ((with_reducible apply s_revV); (focus (walk_at "zsq")))
  | with_reducible refine s_tyS ?_
  | ((with_reducible apply s_tyL); (focus (walk_at "zsq")))
  | ((with_reducible apply s_rRjust2); (focus (exact ⟨by decide, by decide⟩)))
  | with_reducible refine s_lc ?_
  | with_reducible refine s_yes ?_
  | ((with_reducible apply ite_fE); (focus (exact rfl)))
  | ((with_reducible apply ite_tE); (focus (exact rfl))))
local macro_rules | `(tactic| walk_at "z") => `(tactic| repeat (walk_at "z1"))

structure Tx (P : Program) (K : PySem.W.Frag) (mg : Str → Option Value) (w : World) where
  f_p_is_number : Addr
  d_p_is_number : FuncData
  F_p_is_number : Fun K "is_number" "is_number" s_p_is_number f_p_is_number d_p_is_number
  g_p_is_number : mg "is_number" = some (.ref f_p_is_number)
  b_p_is_number : Binds K d_p_is_number ["thing"] []
  f_p_is_good : Addr
  d_p_is_good : FuncData
  F_p_is_good : Fun K "is_good" "is_good" s_p_is_good f_p_is_good d_p_is_good
  g_p_is_good : mg "is_good" = some (.ref f_p_is_good)
  b_p_is_good : Binds K d_p_is_good ["kind", "number"] []
  f_p_need_net : Addr
  d_p_need_net : FuncData
  F_p_need_net : Fun K "need_net" "need_net" s_p_need_net f_p_need_net d_p_need_net
  g_p_need_net : mg "need_net" = some (.ref f_p_need_net)
  b_p_need_net : Binds K d_p_need_net ["net"] []
  f_p_need_place : Addr
  d_p_need_place : FuncData
  F_p_need_place : Fun K "need_place" "need_place" s_p_need_place f_p_need_place d_p_need_place
  g_p_need_place : mg "need_place" = some (.ref f_p_need_place)
  b_p_need_place : Binds K d_p_need_place ["place"] []
  f_p_far_end : Addr
  d_p_far_end : FuncData
  F_p_far_end : Fun K "far_end" "far_end" s_p_far_end f_p_far_end d_p_far_end
  g_p_far_end : mg "far_end" = some (.ref f_p_far_end)
  b_p_far_end : Binds K d_p_far_end ["road", "place"] []
  f_p_way_round : Addr
  d_p_way_round : FuncData
  F_p_way_round : Fun K "way_round" "way_round" s_p_way_round f_p_way_round d_p_way_round
  g_p_way_round : mg "way_round" = some (.ref f_p_way_round)
  b_p_way_round : Binds K d_p_way_round ["net", "gates", "one", "other"] []
  f_p_barred : Addr
  d_p_barred : FuncData
  F_p_barred : Fun K "barred" "barred" s_p_barred f_p_barred d_p_barred
  g_p_barred : mg "barred" = some (.ref f_p_barred)
  b_p_barred : Binds K d_p_barred ["net", "gates", "one", "other"] []
  f_l_bag : Addr
  d_l_bag : FuncData
  F_l_bag : Fun K "_law_bag" "_law_bag" s_l_bag f_l_bag d_l_bag
  g_l_bag : mg "_law_bag" = some (.ref f_l_bag)
  b_l_bag : Binds K d_l_bag ["_law_script"] []
  f_l_pull : Addr
  d_l_pull : FuncData
  F_l_pull : Fun K "_law_pull" "_law_pull" s_l_pull f_l_pull d_l_pull
  g_l_pull : mg "_law_pull" = some (.ref f_l_pull)
  b_l_pull : Binds K d_l_pull ["_law_bag_here", "_law_amount"] []
  f_l_like : Addr
  d_l_like : FuncData
  F_l_like : Fun K "_law_like" "_law_like" s_l_like f_l_like d_l_like
  g_l_like : mg "_law_like" = some (.ref f_l_like)
  b_l_like : Binds K d_l_like ["_law_found", "_law_due"] []
  f_l_far : Addr
  d_l_far : FuncData
  F_l_far : Fun K "_law_far" "_law_far" s_l_far f_l_far d_l_far
  g_l_far : mg "_law_far" = some (.ref f_l_far)
  b_l_far : Binds K d_l_far ["_law_bag_here"] []
  f_l_gate : Addr
  d_l_gate : FuncData
  F_l_gate : Fun K "_law_gate" "_law_gate" s_l_gate f_l_gate d_l_gate
  g_l_gate : mg "_law_gate" = some (.ref f_l_gate)
  b_l_gate : Binds K d_l_gate ["_law_bag_here"] []
  f_l_num : Addr
  d_l_num : FuncData
  F_l_num : Fun K "_law_num" "_law_num" s_l_num f_l_num d_l_num
  g_l_num : mg "_law_num" = some (.ref f_l_num)
  b_l_num : Binds K d_l_num ["_law_found"] []
  f_l_net : Addr
  d_l_net : FuncData
  F_l_net : Fun K "_law_net" "_law_net" s_l_net f_l_net d_l_net
  g_l_net : mg "_law_net" = some (.ref f_l_net)
  b_l_net : Binds K d_l_net ["_law_bag_here"] []
  f_l_net_ok : Addr
  d_l_net_ok : FuncData
  F_l_net_ok : Fun K "_law_net_ok" "_law_net_ok" s_l_net_ok f_l_net_ok d_l_net_ok
  g_l_net_ok : mg "_law_net_ok" = some (.ref f_l_net_ok)
  b_l_net_ok : Binds K d_l_net_ok ["_law_net_here"] []
  f_l_bent_net : Addr
  d_l_bent_net : FuncData
  F_l_bent_net : Fun K "_law_bent_net" "_law_bent_net" s_l_bent_net f_l_bent_net d_l_bent_net
  g_l_bent_net : mg "_law_bent_net" = some (.ref f_l_bent_net)
  b_l_bent_net : Binds K d_l_bent_net ["_law_bag_here", "_law_net_here"] []
  f_l_roads : Addr
  d_l_roads : FuncData
  F_l_roads : Fun K "_law_roads" "_law_roads" s_l_roads f_l_roads d_l_roads
  g_l_roads : mg "_law_roads" = some (.ref f_l_roads)
  b_l_roads : Binds K d_l_roads ["_law_net_here", "_law_place_here"] []
  f_l_place : Addr
  d_l_place : FuncData
  F_l_place : Fun K "_law_place" "_law_place" s_l_place f_l_place d_l_place
  g_l_place : mg "_law_place" = some (.ref f_l_place)
  b_l_place : Binds K d_l_place ["_law_bag_here"] []
  f_l_told : Addr
  d_l_told : FuncData
  F_l_told : Fun K "_law_told" "_law_told" s_l_told f_l_told d_l_told
  g_l_told : mg "_law_told" = some (.ref f_l_told)
  b_l_told : Binds K d_l_told ["_law_way", "_law_net_here", "_law_gates", "_law_one", "_law_two"] []
  f_l_far_off : Addr
  d_l_far_off : FuncData
  F_l_far_off : Fun K "_law_far_off" "_law_far_off" s_l_far_off f_l_far_off d_l_far_off
  g_l_far_off : mg "_law_far_off" = some (.ref f_l_far_off)
  b_l_far_off : Binds K d_l_far_off ["_law_net_here", "_law_gates", "_law_one"] []
  f_l_way_ok : Addr
  d_l_way_ok : FuncData
  F_l_way_ok : Fun K "_law_way_ok" "_law_way_ok" s_l_way_ok f_l_way_ok d_l_way_ok
  g_l_way_ok : mg "_law_way_ok" = some (.ref f_l_way_ok)
  b_l_way_ok : Binds K d_l_way_ok ["_law_net_here", "_law_gates", "_law_way", "_law_one", "_law_two", "_law_steps"] []
  z_len : mg "len" = none
  z_isinstance : mg "isinstance" = none
  z_tuple : mg "tuple" = none
  z_list : mg "list" = none
  z_bool : mg "bool" = none
  z_range : mg "range" = none
  z_int : mg "int" = none
  z_all : mg "all" = none
  z_any : mg "any" = none
  t_MOST_ROADS : Tok
  k_MOST_ROADS : mg "MOST_ROADS" = some (.int 12 t_MOST_ROADS)
  B_BOUNDS : Addr
  g_BOUNDS : mg "BOUNDS" = some (.ref B_BOUNDS)
  t_BOUNDS_gate : Addr
  kd_BOUNDS_gate : KDct K w B_BOUNDS "gate" (.ref t_BOUNDS_gate)
  kt_BOUNDS_gate : ∀ {H : Hp}, SqT K H t_BOUNDS_gate [.int 0, .int 7]
  t_BOUNDS_place : Addr
  kd_BOUNDS_place : KDct K w B_BOUNDS "place" (.ref t_BOUNDS_place)
  kt_BOUNDS_place : ∀ {H : Hp}, SqT K H t_BOUNDS_place [.int 0, .int 7]
  C_PikeError : Addr
  g_PikeError : mg "PikeError" = some (.ref C_PikeError)
  C_BadNet : Addr
  g_BadNet : mg "BadNet" = some (.ref C_BadNet)
  C_BadPlace : Addr
  g_BadPlace : mg "BadPlace" = some (.ref C_BadPlace)
  f_c_PikeError_init : Addr
  d_c_PikeError_init : FuncData
  cda_c_PikeError_init : Addr
  cc_c_PikeError_init : Addr
  FS_c_PikeError_init : FunS P K mg "__init__" "PikeError.__init__" s_c_PikeError_init f_c_PikeError_init d_c_PikeError_init cda_c_PikeError_init cc_c_PikeError_init C_PikeError
  b_c_PikeError_init : Binds K d_c_PikeError_init ["self", "reason"] []
  pk_BadNet : PkC K false C_PikeError C_BadNet "BadNet"
  in_BadNet : PySem.W.findIn K (.ref C_BadNet) "__init__" = some (some (.ref f_c_PikeError_init))
  e_BadNet : PySem.W.exmOne K (.ref C_BadNet) (.ref C_BadNet) = some true
  xf_BadNet : XfC K C_BadNet
  pk_BadPlace : PkC K false C_PikeError C_BadPlace "BadPlace"
  in_BadPlace : PySem.W.findIn K (.ref C_BadPlace) "__init__" = some (some (.ref f_c_PikeError_init))
  e_BadPlace : PySem.W.exmOne K (.ref C_BadPlace) (.ref C_BadPlace) = some true
  xf_BadPlace : XfC K C_BadPlace
  e_BadPlace_BadNet : PySem.W.exmOne K (.ref C_BadPlace) (.ref C_BadNet) = some false
section
variable {P : Program} {w : World} {K : PySem.W.Frag} {mg : Str → Option Value} {base : Heap}
/-! own exceptions: what their __init__ leave -/
theorem sc_c_PikeError_init : NdefX.NScope ["self", "reason", "__class__"] ["self", "reason"] ["__class__"] (defScope s_c_PikeError_init) := NdefX.nscope_by (by decide +kernel)
theorem ok_c_PikeError_init (T : Tx P K mg w) : FnOk P w K mg base CX0 1 T.f_c_PikeError_init T.d_c_PikeError_init ["self", "reason"] (spPike K T.C_PikeError) := by
  refine T.FS_c_PikeError_init.ok (N := ["self", "reason", "__class__"]) (k := 0) rfl sc_c_PikeError_init (fun vs H Q E h => ?_) (fun A outer s H vs Q E hr h => ?_)
  · obtain ⟨a, C, nm, v, rfl, _⟩ := h
    rfl
  · obtain ⟨a, C, nm, v, rfl, ea, T1, k⟩ := h
    refine ⟨_, _, ps_supB (T.FS_c_PikeError_init.sup (sf := "self") (i := 0) (j := 2) rfl rfl rfl rfl rfl rfl) (pa_cons (pv 1) pa_nil), pss_one (ps_osX (pv 0) (pe_cnm (pv 0))), ?_⟩
    refine ⟨a, C, _, false, rfl, rfl, ea, T1.ox, T1.sc, T1.si, T1.sb, ?_⟩
    refine ⟨v, rfl, by show 1 ≤ 1000; decide, ea, ?_⟩
    refine ⟨.ref a, rfl, a, C, nm, rfl, ea, T1.nc, ?_⟩
    exact ⟨.ref a, rfl, a, C, false, rfl, T1.ox, T1.no, .inl ⟨ea, fun dx n ne => k dx n ne⟩⟩

theorem sc_l_pull : FnScope ["_law_bag_here", "_law_amount", "_law_cell", "_law_got", "_law_seed"] ["_law_bag_here", "_law_amount"] (defScope s_l_pull) :=
  ⟨rfl, rfl, rfl, by decide +kernel, rfl, by decide +kernel, by decide +kernel⟩
theorem ok_l_pull (T : Tx P K mg w) : FnOk P w K mg base CX0 1 T.f_l_pull T.d_l_pull ["_law_bag_here", "_law_amount"] spPull := by
  refine T.F_l_pull.ok sc_l_pull (fun vs H Q E h => ?_) (fun cdv A outer s H vs Q E hr h => ?_)
  · obtain ⟨b, c, n, rfl, _⟩ := h
    rfl
  · obtain ⟨b, c, n, rfl, B, n0, n1, k⟩ := h
    have cb : c ≠ b := B.cb
    obtain ⟨cells, i, big, salt, hb, hc, hi, hg, hs0, hs1⟩ := B.ex
    refine ⟨_, (Evl.pss_cut (ps_if (PW.pt (pw_and (pt_cmpR op_eq (pe_ix (r := rIxL K) ix_list (pv 0) pe_int (fun _ _ => rfl)) pe_int (nomark _)) (pw_and1 (pt_cmpR op_lt (pe_ix (r := rIxL K) ix_list (pv 0) pe_int (fun _ _ => rfl)) (pe_callB (r := Z.rLen K) cz_len (by rfl) T.z_len PySem.boot_len (pa_cons (pe_ix (r := rIxL K) ix_list (pv 0) pe_int (fun _ _ => rfl)) pa_nil)) (nomark _))))) (pss_cons (ps_set (i := 2) sc_l_pull.nd rfl (Or.inl rfl) (pe_ix (r := rIxL K) ix_list (pe_ix (r := rIxL K) ix_list (pv 0) pe_int (fun _ _ => rfl)) (pe_ix (r := rIxL K) ix_list (pv 0) pe_int (fun _ _ => rfl)) (fun _ _ => rfl))) (pss_cons (ps_asg (pe_op op_add (pe_ix (r := rIxL K) ix_list (pv 0) pe_int (fun _ _ => rfl)) pe_int) (pg_sub (pv 0) pe_int set_list)) (pss_one (ps_if (pt_cmpR op_ge (pv 2) (pe_op op_pow pe_int pe_int) (nomark _)) (pss_one (ps_asg (pv 2) (pg_sub (pv 0) pe_int set_list))) (pss_one (ps_asg (pe_op op_mod (pe_op op_add (pe_op op_add (pe_op op_mul (pe_ix (r := rIxL K) ix_list (pv 0) pe_int (fun _ _ => rfl)) pe_int) (pe_op op_mul (pe_op op_mod (pv 2) pe_int) pe_int)) pe_int) pe_int) (pg_sub (pv 0) pe_int set_list))))))) pss_nil) (pss_cons (ps_if (pt_cmpR op_gt (pe_ix (r := rIxL K) ix_list (pv 0) pe_int (fun _ _ => rfl)) pe_int (nomark _)) (pss_cons (ps_set (i := 3) sc_l_pull.nd rfl (Or.inl rfl) (pe_op op_mod (pe_ix (r := rIxL K) ix_list (pv 0) pe_int (fun _ _ => rfl)) (pv 1))) (pss_cons (ps_asg (pe_op op_fdivW (pe_ix (r := rIxL K) ix_list (pv 0) pe_int (fun _ _ => rfl)) (pv 1)) (pg_sub (pv 0) pe_int set_list)) (pss_one (ps_ret (pv 3))))) pss_nil) (pss_cons (ps_set (i := 4) sc_l_pull.nd rfl (Or.inl rfl) (pe_ix (r := rIxL K) ix_list (pv 0) pe_int (fun _ _ => rfl))) (pss_cons (ps_asg (pe_op op_mod (pe_op op_add (pe_op op_add (pe_op op_mul (pv 4) pe_int) (pe_op op_mul (pe_op op_fdiv (pv 4) pe_int) pe_int)) pe_int) pe_int) (pg_sub (pv 0) pe_int set_list)) (pss_one (ps_ret (pe_op op_mod (pe_op op_add (pe_op op_fdiv (pe_ix (r := rIxL K) ix_list (pv 0) pe_int (fun _ _ => rfl)) pe_int) (pe_op op_mul (pe_op op_mod (pe_ix (r := rIxL K) ix_list (pv 0) pe_int (fun _ _ => rfl)) pe_int) pe_int)) (pv 1)))))))), ?_⟩
    refine at_start (ρ' := [some _, some _, none, none, none]) rfl ?_
    walk_at "z0"
    refine s_cut (fun ρ H' => ∃ v, ρ = [some (.ref b), some (.int n), v, none, none] ∧ Bag H' b c ∧ Fr b H H') ?_ ?_
    · walk_at "z"
      refine ite_dec (fun h0 => ?_) (fun h0 => ?_)
      · walk_at "z"
        refine ite_dec (fun h1 => ?_) (fun h1 => ?_)
        · rw [List.length_map] at h1
          have h2 : i < cells.length := by omega
          walk_at "z"
          refine s_ixL (SqL.of hc) (atI_nat (v := .int (cells[i])) (by rw [List.getElem?_map, List.getElem?_eq_getElem h2]; rfl)) ?_
          walk_at "z"
          refine s_setN hb (m := 1) rfl [.ref c, .int ((i + 1 : Nat) : Int), .int big, .int salt] rfl fun H1 e1 hb1 => ?_
          have hc1 := e1 _ _ cb hc
          walk_at "z"
          refine ite_dec (fun h3 => ?_) (fun h3 => ?_)
          · walk_at "z"
            refine s_setN hb1 (m := 2) rfl [.ref c, .int ((i + 1 : Nat) : Int), .int (cells[i]), .int salt] rfl fun H2 e2 hb2 => ?_
            have h3 : (10 : Int) ^ 18 ≤ cells[i] := h3
            exact ⟨_, rfl, .mk' hb2 (e2 _ _ cb hc1) h2 (by omega) ⟨hs0, hs1⟩, e1.trans e2⟩
          · walk_at "z"
            refine s_setN hb1 (m := 3) rfl [.ref c, .int ((i + 1 : Nat) : Int), .int big, .int _] rfl fun H2 e2 hb2 => ?_
            exact ⟨_, rfl, .mk' hb2 (e2 _ _ cb hc1) h2 hg ⟨Int.emod_nonneg _ (by decide), Int.emod_lt_of_pos _ (by decide)⟩, e1.trans e2⟩
        · walk_at "z"
          exact ⟨_, rfl, B, Fr.refl⟩
      · walk_at "z"
        exact ⟨_, rfl, B, Fr.refl⟩
    · rintro ρ H1 ⟨v, rfl, B1, e1⟩
      obtain ⟨cells, i, big, salt, hb, hc, hi, hg, hs0, hs1⟩ := B1.ex
      walk_at "z"
      refine ite_dec (fun h0 => ?_) (fun h0 => ?_)
      · walk_at "z"
        refine s_rI (wide_div n0 (b := 200) (by omega) (by decide) (by decide)) ?_
        walk_at "z"
        refine s_setN hb (m := 2) rfl [.ref c, .int (i : Int), .int (big / n), .int salt] rfl fun H2 e2 hb2 => ?_
        walk_at "z"
        exact k _ _ (Int.emod_nonneg _ (by omega)) (Int.emod_lt_of_pos _ n0) (.mk' hb2 (e2 _ _ cb hc) hi (Int.ediv_nonneg hg (by omega)) ⟨hs0, hs1⟩) (e1.trans e2)
      · walk_at "z"
        refine s_setN hb (m := 3) rfl [.ref c, .int (i : Int), .int big, .int _] rfl fun H2 e2 hb2 => ?_
        walk_at "z"
        exact k _ _ (Int.emod_nonneg _ (by omega)) (Int.emod_lt_of_pos _ n0) (.mk' hb2 (e2 _ _ cb hc) hi hg ⟨Int.emod_nonneg _ (by decide), Int.emod_lt_of_pos _ (by decide)⟩) (e1.trans e2)

theorem sc_l_bag : FnScope ["_law_script", "_law_salt", "_law_cell"] ["_law_script"] (defScope s_l_bag) :=
  ⟨rfl, rfl, rfl, by decide +kernel, rfl, by decide +kernel, by decide +kernel⟩
theorem ok_l_bag (T : Tx P K mg w) : FnOk P w K mg base CX0 1 T.f_l_bag T.d_l_bag ["_law_script"] (spBag K) := by
  refine T.F_l_bag.ok sc_l_bag (fun vs H Q E h => ?_) (fun cdv A outer s H vs Q E hr h => ?_)
  · obtain ⟨a, ns, rfl, _⟩ := h
    rfl
  · obtain ⟨a, ns, rfl, hS, hl, k⟩ := h
    refine ⟨_, (pss_cons (ps_set (i := 1) sc_l_bag.nd rfl (Or.inl rfl) pe_int) (pss_cons (ps_for PassesOwn.never rfl (pi_list (pe_slice (r := rSlL K) sl_list (pv 0) po_none (po_some pe_int))) (pg_name (i := 2) sc_l_bag.nd rfl (Or.inl rfl)) (pss_one (ps_set (i := 1) sc_l_bag.nd rfl (Or.inl rfl) (pe_op op_mod (pe_op op_add (pe_op op_add (pe_op op_mul (pv 1) pe_int) (pe_op op_mod (pv 2) pe_int)) pe_int) pe_int)))) (pss_one (ps_ret (pe_lst (pa_cons (pe_callTy (r := rListOf K) cz_listOf (by rfl) T.z_list (by decide +kernel) (pa_cons (pe_slice (r := rSlL K) sl_list (pv 0) po_none (po_some pe_int)) pa_nil)) (pa_cons pe_int (pa_cons pe_int (pa_cons (pv 1) pa_nil))))))))), ?_⟩
    refine at_start (ρ' := [some _, none, none]) rfl ?_
    walk_at "z0"
    walk_at "z"
    rename_i p H1 _ e1 hp
    rw [cut63 (by rw [List.length_map]; exact hl)] at hp
    refine l_list (ns.map V.int) (fun i σ H' => ∃ (z : Int) (v : Option V), σ = [some (.ref a), some (.int z), v] ∧ H' = H1 ∧ 0 ≤ z ∧ z < 2147483647) ⟨977, none, rfl, rfl, by decide, by decide⟩ (fun i σ H' _ h => by
      obtain ⟨_, _, _, rfl, _⟩ := h
      exact .of hp) (fun i x σ H' hx h => ?_) (fun σ H' h => ?_)
    · obtain ⟨z, v, rfl, rfl, h0, h1⟩ := h
      obtain ⟨y, rfl⟩ := map_int_get hx
      walk_at "z"
      exact ⟨_, _, rfl, rfl, Int.emod_nonneg _ (by decide), Int.emod_lt_of_pos _ (by decide)⟩
    · obtain ⟨z, v, rfl, rfl, h0, h1⟩ := h
      walk_at "z"
      rename_i q H2 nq e2 hq c H3 nc e3 hc b H4 nb e4 hb
      rw [cut63 (by rw [List.length_map]; exact hl)] at hc
      refine k b c H4 (Ex.back (by walk_at "zex") nb) (Ex.back (by walk_at "zex") nc) (by walk_at "zex") (.mk' (i := 0) hb (e4 _ _ hc) (Nat.zero_le _) (Int.le_refl _) ⟨h0, h1⟩)

theorem sc_l_like : FnScope ["_law_found", "_law_due", "_law_k"] ["_law_found", "_law_due"] (defScope s_l_like) :=
  ⟨rfl, rfl, rfl, by decide +kernel, rfl, by decide +kernel, by decide +kernel⟩
theorem ok_l_like (T : Tx P K mg w) : ∀ n, FnOk P w K mg base CX0 n T.f_l_like T.d_l_like ["_law_found", "_law_due"] (spLike K n)
  | 0 => fnOk_no like_no
  | n + 1 => by
    have IH := ok_l_like T n
    refine T.F_l_like.ok sc_l_like (fun vs H Q E h => ?_) (fun cdv A outer s H vs Q E hr h => ?_)
    · obtain ⟨x, y, d, rfl, _⟩ := h
      rfl
    · obtain ⟨x, y, d, rfl, dx, dy, ok, k⟩ := h
      refine ⟨_, (pss_cons (ps_if (PW.pt (pw_or (pt_cmpR op_ne (pe_callB (r := rIsi K) call_isi (by rfl) T.z_isinstance (by decide +kernel) (pa_cons (pv 1) (pa_cons (pe_bltn (v := .ty "tuple") rfl T.z_tuple (by decide +kernel) rfl) pa_nil))) (pe_callB (r := rIsi K) call_isi (by rfl) T.z_isinstance (by decide +kernel) (pa_cons (pv 0) (pa_cons (pe_bltn (v := .ty "tuple") rfl T.z_tuple (by decide +kernel) rfl) pa_nil))) (nomark _)) (pw_or1 (pt_cmpR op_ne (pe_callB (r := rIsi K) call_isi (by rfl) T.z_isinstance (by decide +kernel) (pa_cons (pv 1) (pa_cons (pe_bltn (v := .ty "list") rfl T.z_list (by decide +kernel) rfl) pa_nil))) (pe_callB (r := rIsi K) call_isi (by rfl) T.z_isinstance (by decide +kernel) (pa_cons (pv 0) (pa_cons (pe_bltn (v := .ty "list") rfl T.z_list (by decide +kernel) rfl) pa_nil))) (nomark _))))) (pss_one (ps_ret pe_bl)) pss_nil) (pss_cons (ps_if (pt_not (pt_val (pe_callB (r := rIsiT K) call_isiT (by rfl) T.z_isinstance (by decide +kernel) (pa_cons (pv 1) (pa_cons (pe_tup (pa_cons (pe_bltn (v := .ty "tuple") rfl T.z_tuple (by decide +kernel) rfl) (pa_cons (pe_bltn (v := .ty "list") rfl T.z_list (by decide +kernel) rfl) pa_nil))) pa_nil))))) (pss_one (ps_ret (pe_and (pe_cmpR op_eq (pe_callB (r := rIsi K) call_isi (by rfl) T.z_isinstance (by decide +kernel) (pa_cons (pv 0) (pa_cons (pe_bltn (v := .ty "bool") rfl T.z_bool (by decide +kernel) rfl) pa_nil))) (pe_callB (r := rIsi K) call_isi (by rfl) T.z_isinstance (by decide +kernel) (pa_cons (pv 1) (pa_cons (pe_bltn (v := .ty "bool") rfl T.z_bool (by decide +kernel) rfl) pa_nil))) (nomark _)) (pe_one (pe_cmpR op_eq (pv 0) (pv 1) (nomark _)))))) pss_nil) (pss_one (ps_ret (pe_and (pe_cmpR op_eq (pe_callB (r := Z.rLen K) cz_len (by rfl) T.z_len PySem.boot_len (pa_cons (pv 0) pa_nil)) (pe_callB (r := Z.rLen K) cz_len (by rfl) T.z_len PySem.boot_len (pa_cons (pv 1) pa_nil)) (nomark _)) (pe_one (pe_callB (r := rAll K) (cr_all rfl) (by rfl) T.z_all (by decide +kernel) (pa_cons (pe_lc (own := [("_law_k", 2)]) (by rfl) sc_l_like.nd (pi_range1 (by rfl) T.z_range (pa_cons (pe_callB (r := Z.rLen K) cz_len (by rfl) T.z_len PySem.boot_len (pa_cons (pv 1) pa_nil)) pa_nil)) (blkOk_by (own := [("_law_k", 2)]) (N := ["_law_found", "_law_due", "_law_k"]) (sc := defScope s_l_like) (by decide +kernel)) (fun _ _ _ _ _ => (pg_name (i := 2) sc_l_like.nd rfl (Or.inl rfl))) (fun _ _ _ _ _ => pts_nil) (fun _ _ _ _ _ => (pe_call IH hr rfl T.g_l_like T.F_l_like.kp T.b_l_like .nil pass0 (pa_cons (pe_ix (r := rIx K) ix_seq (pv 0) (pv 2) (fun _ _ => rfl)) (pa_cons (pe_ix (r := rIx K) ix_seq (pv 1) (pv 2) (fun _ _ => rfl)) pa_nil))))) pa_nil)))))))), ?_⟩
      refine at_start (ρ' := [some _, some _, none]) rfl ?_
      walk_at "z0"
      cases dx with
      | int i =>
        cases dy
        walk_at "z"
        exact ev_blT (by simp) (k _ (by walk_at "zex"))
      | bl i =>
        cases dy
        walk_at "z"
        exact ev_blT (by simp) (k _ (by walk_at "zex"))
      | str i =>
        cases dy
        walk_at "z"
        exact ev_blT (by simp) (k _ (by walk_at "zex"))
      | non =>
        cases dy
        walk_at "z"
        exact ev_blT (by simp) (k _ (by walk_at "zex"))
      | lst hx rx =>
        rename_i a xs ds
        cases dy with
        | lst hy ry =>
        rename_i b ys
        obtain ⟨hlen, hds⟩ := ok
        have l1 := dpAll_len rx
        have l2 := dpAll_len ry
        walk_at "z"
        refine ite_pos (by omega) ?_
        walk_at "z"
        rename_i H1 _ e1 _
        refine c_range (by omega) (fun D H' => H1 D = none ∧ Ex H1 H') (fun D i l H' => l = List.replicate i (.bl true)) (fun D H' n e _ => ⟨⟨n, e⟩, rfl⟩) (fun D i l H2 hi e2 hl hz r => ?_) (fun D l H2 e2 hl hz r => ?_)
        · obtain ⟨nD, e2⟩ := e2
          have i1 : i < xs.length := by omega
          have i2 : i < ys.length := by omega
          have i3 : i < ds.length := by omega
          walk_at "z"
          refine ⟨rfl, ?_⟩
          walk_at "z"
          refine Or.inl ⟨_, _, _, _, rfl, rfl, (Ex.sqL (by walk_at "zex") hx), atI_nat (List.getElem?_eq_getElem i1), ?_⟩
          walk_at "z"
          refine Or.inl ⟨_, _, _, _, rfl, rfl, (Ex.sqL (by walk_at "zex") hy), atI_nat (List.getElem?_eq_getElem i2), ?_⟩
          walk_at "z"
          refine ⟨_, _, ds[i], rfl, dp_ex (by walk_at "zex") (dpAll_get rx (List.getElem?_eq_getElem i1) (List.getElem?_eq_getElem i3)), dp_ex (by walk_at "zex") (dpAll_get ry (List.getElem?_eq_getElem i2) (List.getElem?_eq_getElem i3)), hds _ (List.getElem_mem i3), fun H3 e3 => ?_⟩
          exact c_put (e3 _ _ hl) (by omega) fun H5 f5 _ => ⟨⟨nD, fun q o hq => f5 _ _ (ne_of_none hq nD) (e3 _ _ (e2 _ _ hq))⟩, by rw [r, List.replicate_succ']⟩
        · obtain ⟨nD, e2⟩ := e2
          walk_at "z"
          refine s_rAll (List.replicate ys.length true) (SqL.of hl) (by rw [r, List.map_replicate]; simp) ?_
          exact ev_blT (by simp) (k _ (by walk_at "zex"))
      | tup hx rx =>
        rename_i a xs ds
        cases dy with
        | tup hy ry =>
        rename_i b ys
        obtain ⟨hlen, hds⟩ := ok
        have l1 := dpAll_len rx
        have l2 := dpAll_len ry
        walk_at "z"
        refine ite_pos (by omega) ?_
        walk_at "z"
        rename_i H1 _ e1 _
        refine c_range (by omega) (fun D H' => H1 D = none ∧ Ex H1 H') (fun D i l H' => l = List.replicate i (.bl true)) (fun D H' n e _ => ⟨⟨n, e⟩, rfl⟩) (fun D i l H2 hi e2 hl hz r => ?_) (fun D l H2 e2 hl hz r => ?_)
        · obtain ⟨nD, e2⟩ := e2
          have i1 : i < xs.length := by omega
          have i2 : i < ys.length := by omega
          have i3 : i < ds.length := by omega
          walk_at "z"
          refine ⟨rfl, ?_⟩
          walk_at "z"
          refine Or.inr (Or.inl ⟨_, _, _, _, rfl, rfl, (Ex.sqT (by walk_at "zex") hx), atI_nat (List.getElem?_eq_getElem i1), ?_⟩)
          walk_at "z"
          refine Or.inr (Or.inl ⟨_, _, _, _, rfl, rfl, (Ex.sqT (by walk_at "zex") hy), atI_nat (List.getElem?_eq_getElem i2), ?_⟩)
          walk_at "z"
          refine ⟨_, _, ds[i], rfl, dp_ex (by walk_at "zex") (dpAll_get rx (List.getElem?_eq_getElem i1) (List.getElem?_eq_getElem i3)), dp_ex (by walk_at "zex") (dpAll_get ry (List.getElem?_eq_getElem i2) (List.getElem?_eq_getElem i3)), hds _ (List.getElem_mem i3), fun H3 e3 => ?_⟩
          exact c_put (e3 _ _ hl) (by omega) fun H5 f5 _ => ⟨⟨nD, fun q o hq => f5 _ _ (ne_of_none hq nD) (e3 _ _ (e2 _ _ hq))⟩, by rw [r, List.replicate_succ']⟩
        · obtain ⟨nD, e2⟩ := e2
          walk_at "z"
          refine s_rAll (List.replicate ys.length true) (SqL.of hl) (by rw [r, List.map_replicate]; simp) ?_
          exact ev_blT (by simp) (k _ (by walk_at "zex"))

theorem b01 (c : Bool) : (if c = true then (1 : Int) else 0) = 1 ∨ (if c = true then (1 : Int) else 0) = 0 := by cases c <;> simp
theorem sc_l_gate : FnScope ["_law_bag_here"] ["_law_bag_here"] (defScope s_l_gate) :=
  ⟨rfl, rfl, rfl, by decide +kernel, rfl, by decide +kernel, by decide +kernel⟩
theorem ok_l_gate (T : Tx P K mg w) : FnOk P w K mg base CX0 2 T.f_l_gate T.d_l_gate ["_law_bag_here"] (spInt 0 7) := by
  refine T.F_l_gate.ok sc_l_gate (fun vs H Q E h => ?_) (fun cdv A outer s H vs Q E hr h => ?_)
  · obtain ⟨b, c, rfl, _⟩ := h
    rfl
  · obtain ⟨b, c, rfl, B, k⟩ := h
    refine ⟨_, (pss_one (ps_ret (pe_call (ok_l_pull T) (hr.mono (by decide)) rfl T.g_l_pull T.F_l_pull.kp T.b_l_pull .nil pass0 (pa_cons (pv 0) (pa_cons (pe_ix (r := rIxT K) ix_tup (pe_tup (pa_cons pe_int (pa_cons pe_int pa_nil))) (pe_callTy cz_int1 (by rfl) T.z_int (by decide +kernel) (pa_cons (pe_cmpR op_eq (pe_call (ok_l_pull T) (hr.mono (by decide)) rfl T.g_l_pull T.F_l_pull.kp T.b_l_pull .nil pass0 (pa_cons (pv 0) (pa_cons pe_int pa_nil))) pe_int (nomark _)) pa_nil)) (fun _ _ => rfl)) pa_nil))))), ?_⟩
    refine at_start (ρ' := [some _]) rfl ?_
    walk_at "z0"
    walk_at "z"
    refine s_ixPT (IntIn 4 8) (by walk_at "zsq") (by split <;> decide) (by walk_at "zin") fun v ⟨n, e, hn⟩ => ?_
    subst e
    obtain ⟨n0, n1⟩ := hn
    walk_at "z"
    exact k _ _ (by assumption) (by omega) (by walk_at "zbag") (by walk_at "zfr")

theorem sc_l_far : FnScope ["_law_bag_here", "_law_number"] ["_law_bag_here"] (defScope s_l_far) :=
  ⟨rfl, rfl, rfl, by decide +kernel, rfl, by decide +kernel, by decide +kernel⟩
theorem ok_l_far (T : Tx P K mg w) : FnOk P w K mg base CX0 2 T.f_l_far T.d_l_far ["_law_bag_here"] (spInt (-(2 ^ 70)) (2 ^ 70)) := by
  refine T.F_l_far.ok sc_l_far (fun vs H Q E h => ?_) (fun cdv A outer s H vs Q E hr h => ?_)
  · obtain ⟨b, c, rfl, _⟩ := h
    rfl
  · obtain ⟨b, c, rfl, B, k⟩ := h
    refine ⟨_, (pss_cons (ps_set (i := 1) sc_l_far.nd rfl (Or.inl rfl) (pe_call (ok_l_pull T) (hr.mono (by decide)) rfl T.g_l_pull T.F_l_pull.kp T.b_l_pull .nil pass0 (pa_cons (pv 0) (pa_cons (pe_op op_pow pe_int pe_int) pa_nil)))) (pss_cons (ps_if (pt_cmpR op_eq (pe_call (ok_l_pull T) (hr.mono (by decide)) rfl T.g_l_pull T.F_l_pull.kp T.b_l_pull .nil pass0 (pa_cons (pv 0) (pa_cons pe_int pa_nil))) pe_int (nomark _)) (pss_one (ps_set (i := 1) sc_l_far.nd rfl (Or.inl rfl) (pe_op op_add (pv 1) (pe_op op_pow pe_int pe_int)))) pss_nil) (pss_cons (ps_if (pt_cmpR op_eq (pe_call (ok_l_pull T) (hr.mono (by decide)) rfl T.g_l_pull T.F_l_pull.kp T.b_l_pull .nil pass0 (pa_cons (pv 0) (pa_cons pe_int pa_nil))) pe_int (nomark _)) (pss_one (ps_ret (pe_op op_sub (pe_un un_neg pe_int) (pv 1)))) pss_nil) (pss_one (ps_ret (pv 1)))))), ?_⟩
    refine at_start (ρ' := [some _, none]) rfl ?_
    walk_at "z0"
    walk_at "z"
    rename_i z H1 z0 z1 B1 f1 y H2 y0 y1 B2 f2
    rw [show (10 : Int) ^ Int.toNat 9 = 1000000000 from by decide +kernel] at z1
    refine ite_dec (fun h1 => ?_) (fun h1 => ?_)
    · walk_at "z"
      rename_i x H3 x0 x1 B3 f3
      refine ite_dec (fun h2 => ?_) (fun h2 => ?_)
      · walk_at "z"
        rw [show (10 : Int) ^ Int.toNat 20 = 100000000000000000000 from by decide +kernel]
        exact k _ _ (by omega) (by omega) (by walk_at "zbag") (by walk_at "zfr")
      · walk_at "z"
        rw [show (10 : Int) ^ Int.toNat 20 = 100000000000000000000 from by decide +kernel]
        exact k _ _ (by omega) (by omega) (by walk_at "zbag") (by walk_at "zfr")
    · walk_at "z"
      rename_i x H3 x0 x1 B3 f3
      refine ite_dec (fun h2 => ?_) (fun h2 => ?_)
      · walk_at "z"
        exact k _ _ (by omega) (by omega) (by walk_at "zbag") (by walk_at "zfr")
      · walk_at "z"
        exact k _ _ (by omega) (by omega) (by walk_at "zbag") (by walk_at "zfr")

/-! numbers within their bounds -/
def within (lo : Int) (hi : Option Int) (n : Int) : Bool := decide (lo ≤ n) && (match hi with | none => true | some h => decide (n ≤ h))
def optV (b : Option Int) : V := match b with | none => .non | some n => .int n
def optD (b : Option Int) : PyData := match b with | none => .none | some n => .int n
def spGood (K : PySem.W.Frag) (w : World) (B : Addr) : Sp := fun vs H Q _ => ∃ (kind : Str) (n lo : Int) (hi : Option Int) (t : Addr), vs = [.str kind, .int n] ∧ KDct K w B kind (.ref t) ∧ (∀ {H : Hp}, SqT K H t [.int lo, optV hi]) ∧ Q (.bl (within lo hi n)) H
def spNum : Sp := fun vs H Q _ => ∃ n : Int, vs = [.int n] ∧ Q (.bl true) H
theorem sc_p_is_number : FnScope ["thing"] ["thing"] (defScope s_p_is_number) :=
  ⟨rfl, rfl, rfl, by decide +kernel, rfl, by decide +kernel, by decide +kernel⟩
theorem ok_p_is_number (T : Tx P K mg w) : FnOk P w K mg base CX0 1 T.f_p_is_number T.d_p_is_number ["thing"] spNum := by
  refine T.F_p_is_number.ok sc_p_is_number (fun vs H Q E h => ?_) (fun cdv A outer s H vs Q E hr h => ?_)
  · obtain ⟨n, rfl, _⟩ := h
    rfl
  · obtain ⟨n, rfl, k⟩ := h
    refine ⟨_, (pss_one (ps_ret (pe_and (pe_callB (r := rIsi K) call_isi (by rfl) T.z_isinstance (by decide +kernel) (pa_cons (pv 0) (pa_cons (pe_bltn (v := .ty "int") rfl T.z_int (by decide +kernel) rfl) pa_nil))) (pe_one (pe_not (pe_callB (r := rIsi K) call_isi (by rfl) T.z_isinstance (by decide +kernel) (pa_cons (pv 0) (pa_cons (pe_bltn (v := .ty "bool") rfl T.z_bool (by decide +kernel) rfl) pa_nil)))))))), ?_⟩
    refine at_start (ρ' := [some _]) rfl ?_
    walk_at "z0"
    walk_at "z"
    exact k
theorem sc_p_is_good : FnScope ["kind", "number", "least", "greatest"] ["kind", "number"] (defScope s_p_is_good) :=
  ⟨rfl, rfl, rfl, by decide +kernel, rfl, by decide +kernel, by decide +kernel⟩
theorem ok_p_is_good (T : Tx P K mg w) : FnOk P w K mg base CX0 2 T.f_p_is_good T.d_p_is_good ["kind", "number"] (spGood K w T.B_BOUNDS) := by
  refine T.F_p_is_good.ok sc_p_is_good (fun vs H Q E h => ?_) (fun cdv A outer s H vs Q E hr h => ?_)
  · obtain ⟨kind, n, lo, hi, t, rfl, _⟩ := h
    rfl
  · obtain ⟨kind, n, lo, hi, t, rfl, hk, ht, k⟩ := h
    refine ⟨_, (pss_cons (ps_if (pt_not (pt_val (pe_call (ok_p_is_number T) (hr.mono (by decide)) rfl T.g_p_is_number T.F_p_is_number.kp T.b_p_is_number .nil pass0 (pa_cons (pv 1) pa_nil)))) (pss_one (ps_ret pe_bl)) pss_nil) (pss_cons (ps_asg (pe_ix (r := rIxD K w) ix_kdict (pe_glob (v := .ref T.B_BOUNDS) rfl T.g_BOUNDS rfl) (pv 0) (fun _ _ => rfl)) (pg_tup (by rfl) (pgs_cons (pg_name (i := 2) sc_p_is_good.nd rfl (Or.inl rfl)) (pgs_cons (pg_name (i := 3) sc_p_is_good.nd rfl (Or.inl rfl)) pgs_nil)))) (pss_one (ps_ret (pe_and (pe_cmpR op_le (pv 2) (pv 1) (nomark _)) (pe_one (pe_or (pe_cmpR op_isN1 (pv 3) pe_non (nomark _)) (pe_one (pe_cmpR op_le (pv 1) (pv 3) (nomark _)))))))))), ?_⟩
    refine at_start (ρ' := [some _, some _, none, none]) rfl ?_
    walk_at "z0"
    walk_at "z"
    refine ⟨n, rfl, ?_⟩
    walk_at "z"
    refine s_kix hk ?_
    refine s_gTup ht rfl ?_
    walk_at "z"
    by_cases h1 : lo ≤ n
    · refine ite_pos h1 ?_
      walk_at "z"
      unfold within at k
      rw [decide_eq_true h1, Bool.true_and] at k
      cases hi with
      | none =>
        refine ite_tE rfl ?_
        exact k
      | some m =>
        refine ite_fE rfl ?_
        walk_at "z"
        exact s_rI0 (a := n) (b := m) k
    · refine ite_neg h1 ?_
      unfold within at k
      rw [decide_eq_false h1, Bool.false_and] at k
      exact k
def spNeed (lo hi : Int) : Sp := fun vs H Q _ => ∃ n : Int, vs = [.int n] ∧ lo ≤ n ∧ n ≤ hi ∧ Q .non H
theorem within_in {lo hi n : Int} (h1 : lo ≤ n) (h2 : n ≤ hi) : within lo (some hi) n = true := by
  unfold within
  rw [decide_eq_true h1, Bool.true_and]
  exact decide_eq_true h2

theorem s_mkO {C : Addr} {sp : Sp} {dvs : List V} {ta : TA} {σ : L2.St} {H : Hp} {Q : XK} (k : ta σ H fun vs H1 => vs.length ≤ 1000 ∧ ∀ a, H1 a = none → sp (.ref a :: (vs ++ dvs)) (upd H1 a (exo a C none))
  (fun v H2 => v = .non ∧ ∃ (d : Addr) (fs : List (Str × V)), H2 a = some (exo a C (some d)) ∧ H2 d = some (exd d fs) ∧ H1 d = none ∧ Q (.ref C) (some d) (upd (del H2 a) d (.xd fs))) (fun _ _ _ => False)) : tMkO C sp dvs ta σ H Q := k

/-! nets of roads -/
structure Road where
  a : Int
  b : Int
  g : Option Int
def Road.v (r : Road) : List V := [.int r.a, .int r.b, optV r.g]
def RoadAt (K : PySem.W.Frag) (H : Hp) (v : V) (r : Road) : Prop := ∃ p, v = .ref p ∧ SqT K H p r.v
def NetAt (K : PySem.W.Frag) (H : Hp) (l : Addr) (net : List Road) : Prop := ∃ vs, SqL K H l vs ∧ All2 (RoadAt K H) vs net
theorem RoadAt.ex {H H' : Hp} (e : Ex H H') {v : V} {r : Road} (h : RoadAt K H v r) : RoadAt K H' v r := by
  obtain ⟨p, h1, h2⟩ := h
  exact ⟨p, h1, e.sqT h2⟩
theorem roads_ex {H H' : Hp} (e : Ex H H') {vs : List V} {rs : List Road} (h : All2 (RoadAt K H) vs rs) : All2 (RoadAt K H') vs rs := h.mono fun _ _ q => q.ex e
theorem NetAt.ex {H H' : Hp} (e : Ex H H') {l : Addr} {net : List Road} (h : NetAt K H l net) : NetAt K H' l net := by
  obtain ⟨vs, h1, h2⟩ := h
  exact ⟨vs, e.sqL h1, roads_ex e h2⟩
def okP (n : Int) : Bool := within 0 (some 7) n
def Road.ok (r : Road) : Bool := okP r.a && (okP r.b && (match r.g with | none => true | some g => okP g))
def netOk (net : List Road) : Bool := decide (net.length ≤ 12) && net.all Road.ok
def Sm (n : Int) : Prop := -(2 ^ 80) ≤ n ∧ n ≤ 2 ^ 80
def Road.sm (r : Road) : Prop := Sm r.a ∧ Sm r.b ∧ ∀ g, r.g = some g → Sm g
theorem Sm.log {n : Int} (h : Sm n) : n.natAbs.log2 < 1920 := log_small (by have := h.1; omega) (by have := h.2; omega)
theorem okP_iff {n : Int} : okP n = true ↔ 0 ≤ n ∧ n ≤ 7 := by
  unfold okP within
  simp
/-- a net is let by, or it is refused -/
def spNet (K : PySem.W.Frag) (C : Addr) : Sp := fun vs H Q E => ∃ (l : Addr) (net : List Road), vs = [.ref l] ∧ NetAt K H l net ∧ (∀ r ∈ net, r.sm) ∧ net.length ≤ 1000 ∧ (netOk net = true → Q .non H) ∧
  (netOk net = false → ∀ d, H d = none → E (.ref C) (some d) (upd H d (.xd [("called", .str "BadNet")])))
/-- a place is let by, or it is refused -/
def spPlc (C : Addr) : Sp := fun vs H Q E => ∃ n : Int, vs = [.int n] ∧ Sm n ∧ (okP n = true → Q .non H) ∧ (okP n = false → ∀ d, H d = none → E (.ref C) (some d) (upd H d (.xd [("called", .str "BadPlace")])))
theorem js_step {acc y : Str} {ts : List TE} {σ : L2.St} {H : Hp} {R : Str → Hp → Prop} (m n : Nat) (h1 : acc.length ≤ m) (h2 : y.length ≤ n) (hmn : m + n ≤ 90000) (k : (acc ++ y).length ≤ m + n → tJs ts (acc ++ y) σ H R) : JsV (.str y) acc ts σ H R := by
  have e : (acc ++ y).length ≤ m + n := by
    rw [Str_len_app]
    omega
  exact s_jsV (sz (by omega)) (k e)
theorem Sm.len {n : Int} (h : Sm n) : (Str.ofString (toString n)).length ≤ 1921 := PyProof.Rows.int_text_len_1921 h.log
theorem sc_p_need_place : FnScope ["place"] ["place"] (defScope s_p_need_place) :=
  ⟨rfl, rfl, rfl, by decide +kernel, rfl, by decide +kernel, by decide +kernel⟩
theorem ok_p_need_place (T : Tx P K mg w) : FnOk P w K mg base (CX P w) 3 T.f_p_need_place T.d_p_need_place ["place"] (spPlc T.C_BadPlace) := by
  refine T.F_p_need_place.okX sc_p_need_place (fun vs H Q E h => ?_) (fun cdv A outer s H vs Q E hr h => ?_)
  · obtain ⟨n, rfl, _⟩ := h
    rfl
  · obtain ⟨n, rfl, sm, k1, k2⟩ := h
    have hn := PyProof.Rows.int_text_len_1921 sm.log
    refine ⟨_, (pss_one (ps_if (pt_not (pt_val (pe_call (ok_p_is_good T) (hr.mono (by decide)) rfl T.g_p_is_good T.F_p_is_good.kp T.b_p_is_good .nil pass0 (pa_cons pe_str (pa_cons (pv 0) pa_nil))))) (pss_one (ps_raise rfl (takes_of rfl rfl rfl rfl) (pmk_ox T.pk_BadPlace.ox T.in_BadPlace T.FS_c_PikeError_init.ty (ok_c_PikeError_init T) (hr.mono (by decide)) T.b_c_PikeError_init .nil pass0 rfl T.g_BadPlace (pa_cons (pz_fstr (PJ.cons pe_str (PJ.cons (pe_fmt (pv 0)) PJ.nil))) pa_nil)))) pss_nil)), ?_⟩
    refine at_start (ρ' := [some _]) rfl ?_
    walk_at "z0"
    walk_at "z"
    refine ⟨_, _, 0, some 7, _, rfl, T.kd_BOUNDS_place, T.kt_BOUNDS_place, ?_⟩
    change okP n = true → _ at k1
    have ez : within 0 (some 7) n = okP n := rfl
    rw [ez]
    cases hok : okP n with
    | true =>
      walk_at "z"
      exact k1 hok
    | false =>
      walk_at "z"
      refine s_mkO ?_
      walk_at "z"
      refine js_step 0 20 (by decide +kernel) (by decide +kernel) (by decide) fun b1 => ?_
      walk_at "z"
      refine s_fmtI sm.log ?_
      refine js_step _ 1921 b1 sm.len (by decide) fun b2 => ?_
      walk_at "z"
      exact use_pike T.pk_BadPlace (k2 hok)
theorem sc_p_need_net : FnScope ["net", "one", "other", "gate"] ["net"] (defScope s_p_need_net) :=
  ⟨rfl, rfl, rfl, by decide +kernel, rfl, by decide +kernel, by decide +kernel⟩
theorem ok_p_need_net (T : Tx P K mg w) : FnOk P w K mg base (CX P w) 3 T.f_p_need_net T.d_p_need_net ["net"] (spNet K T.C_BadNet) := by
  refine T.F_p_need_net.okX sc_p_need_net (fun vs H Q E h => ?_) (fun cdv A outer s H vs Q E hr h => ?_)
  · obtain ⟨l, net, rfl, _⟩ := h
    rfl
  · obtain ⟨l, net, rfl, ⟨vs, hl, hr2⟩, sm, hz, k1, k2⟩ := h
    have hlen := hr2.len
    refine ⟨_, (pss_cons (ps_if (pt_cmpR op_gt (pe_callB (r := Z.rLen K) cz_len (by rfl) T.z_len PySem.boot_len (pa_cons (pv 0) pa_nil)) (pe_glob (v := .int 12) rfl T.k_MOST_ROADS ⟨_, rfl⟩) (nomark _)) (pss_one (ps_raise rfl (takes_of rfl rfl rfl rfl) (pmk_ox T.pk_BadNet.ox T.in_BadNet T.FS_c_PikeError_init.ty (ok_c_PikeError_init T) (hr.mono (by decide)) T.b_c_PikeError_init .nil pass0 rfl T.g_BadNet (pa_cons (pz_fstr (PJ.cons (pe_fmt (pe_callB (r := Z.rLen K) cz_len (by rfl) T.z_len PySem.boot_len (pa_cons (pv 0) pa_nil))) (PJ.cons pe_str PJ.nil))) pa_nil)))) pss_nil) (pss_one (ps_for (passes_of rfl) rfl (pi_list (pv 0)) (pg_tup (by rfl) (pgs_cons (pg_name (i := 1) sc_p_need_net.nd rfl (Or.inl rfl)) (pgs_cons (pg_name (i := 2) sc_p_need_net.nd rfl (Or.inl rfl)) (pgs_cons (pg_name (i := 3) sc_p_need_net.nd rfl (Or.inl rfl)) pgs_nil)))) (pss_cons (ps_if (PW.pt (pw_or (pt_not (pt_val (pe_call (ok_p_is_good T) (hr.mono (by decide)) rfl T.g_p_is_good T.F_p_is_good.kp T.b_p_is_good .nil pass0 (pa_cons pe_str (pa_cons (pv 1) pa_nil))))) (pw_or1 (pt_not (pt_val (pe_call (ok_p_is_good T) (hr.mono (by decide)) rfl T.g_p_is_good T.F_p_is_good.kp T.b_p_is_good .nil pass0 (pa_cons pe_str (pa_cons (pv 2) pa_nil)))))))) (pss_one (ps_raise rfl (takes_of rfl rfl rfl rfl) (pmk_ox T.pk_BadNet.ox T.in_BadNet T.FS_c_PikeError_init.ty (ok_c_PikeError_init T) (hr.mono (by decide)) T.b_c_PikeError_init .nil pass0 rfl T.g_BadNet (pa_cons (pz_fstr (PJ.cons pe_str (PJ.cons (pe_fmt (pv 1)) (PJ.cons pe_str (PJ.cons (pe_fmt (pv 2)) PJ.nil))))) pa_nil)))) pss_nil) (pss_one (ps_if (PW.pt (pw_and (pt_cmpR op_notN1 (pv 3) pe_non (nomark _)) (pw_and1 (pt_not (pt_val (pe_call (ok_p_is_good T) (hr.mono (by decide)) rfl T.g_p_is_good T.F_p_is_good.kp T.b_p_is_good .nil pass0 (pa_cons pe_str (pa_cons (pv 3) pa_nil)))))))) (pss_one (ps_raise rfl (takes_of rfl rfl rfl rfl) (pmk_ox T.pk_BadNet.ox T.in_BadNet T.FS_c_PikeError_init.ty (ok_c_PikeError_init T) (hr.mono (by decide)) T.b_c_PikeError_init .nil pass0 rfl T.g_BadNet (pa_cons (pz_fstr (PJ.cons pe_str (PJ.cons (pe_fmt (pv 3)) PJ.nil))) pa_nil)))) pss_nil)))))), ?_⟩
    refine at_start (ρ' := [some _, none, none, none]) rfl ?_
    walk_at "z0"
    walk_at "z"
    refine ite_dec (fun h1 => ?_) (fun h1 => ?_)
    · refine s_mkO ?_
      walk_at "z"
      refine s_fmtI (log_small (by omega) (by omega)) ?_
      refine js_step 0 1921 (by decide +kernel) (PyProof.Rows.int_text_len_1921 (log_small (by omega) (by omega))) (by decide) fun b1 => ?_
      walk_at "z"
      refine js_step _ 40 b1 (by decide +kernel) (by decide) fun b2 => ?_
      walk_at "z"
      exact use_pike T.pk_BadNet (k2 (by
        unfold netOk
        rw [decide_eq_false (by omega : ¬ net.length ≤ 12)]
        rfl))
    walk_at "z"
    have hle : net.length ≤ 12 := by omega
    refine l_list vs (fun i σ H' => ∃ v1 v2 v3, σ = [some (.ref l), v1, v2, v3] ∧ H' = H ∧ (net.take i).all Road.ok = true) ⟨_, _, _, rfl, rfl, rfl⟩ (fun i σ H' hi h => ?_) (fun i x σ H2 hi h => ?_) (fun σ H2 h => ?_)
    · obtain ⟨_, _, _, rfl, rfl, _⟩ := h
      exact hl
    · obtain ⟨v1, v2, v3, rfl, rfl, hall⟩ := h
      obtain ⟨r, hr1, p, rfl, hp⟩ := hr2.get hi
      have sr := sm r (List.mem_of_getElem? hr1)
      have nx : (net.take (i + 1)).all Road.ok = r.ok := by
        rw [List.take_succ, hr1, List.all_append, hall]
        simp
      have bad : r.ok = false → netOk net = false := fun z => by
        unfold netOk
        rw [Bool.and_eq_false_iff]
        refine .inr (List.all_eq_false.mpr ⟨r, List.mem_of_getElem? hr1, by rw [z]; decide⟩)
      obtain ⟨ra, rb, rg⟩ := r
      unfold Road.v at hp
      unfold Road.ok at nx bad
      dsimp only at hp nx bad
      obtain ⟨s1, s2, s3⟩ := sr
      dsimp only at s1 s2 s3
      refine s_gTup hp rfl ?_
      walk_at "z"
      refine ⟨_, _, 0, some 7, _, rfl, T.kd_BOUNDS_place, T.kt_BOUNDS_place, ?_⟩
      have ea : within 0 (some 7) ra = okP ra := rfl
      have eb : within 0 (some 7) rb = okP rb := rfl
      rw [ea]
      cases hoa : okP ra with
      | false =>
        walk_at "z"
        refine s_mkO ?_
        walk_at "z"
        refine js_step 0 20 (by decide +kernel) (by decide +kernel) (by decide) fun b1 => ?_
        walk_at "z"
        refine s_fmtI s1.log ?_
        refine js_step _ 1921 b1 s1.len (by decide) fun b2 => ?_
        walk_at "z"
        refine js_step _ 20 b2 (by decide +kernel) (by decide) fun b3 => ?_
        walk_at "z"
        refine s_fmtI s2.log ?_
        refine js_step _ 1921 b3 s2.len (by decide) fun b4 => ?_
        walk_at "z"
        exact use_pike T.pk_BadNet (k2 (bad (by rw [hoa]; simp)))
      | true =>
        walk_at "z"
        refine ⟨_, _, 0, some 7, _, rfl, T.kd_BOUNDS_place, T.kt_BOUNDS_place, ?_⟩
        rw [eb]
        cases hob : okP rb with
        | false =>
          walk_at "z"
          refine s_mkO ?_
          walk_at "z"
          refine js_step 0 20 (by decide +kernel) (by decide +kernel) (by decide) fun b1 => ?_
          walk_at "z"
          refine s_fmtI s1.log ?_
          refine js_step _ 1921 b1 s1.len (by decide) fun b2 => ?_
          walk_at "z"
          refine js_step _ 20 b2 (by decide +kernel) (by decide) fun b3 => ?_
          walk_at "z"
          refine s_fmtI s2.log ?_
          refine js_step _ 1921 b3 s2.len (by decide) fun b4 => ?_
          walk_at "z"
          exact use_pike T.pk_BadNet (k2 (bad (by rw [hob]; simp)))
        | true =>
          walk_at "z"
          rw [hoa, hob] at nx bad
          cases rg with
          | none =>
            dsimp only [optV]
            walk_at "z"
            exact ⟨_, _, _, rfl, rfl, nx⟩
          | some g =>
            dsimp only [optV]
            walk_at "z"
            refine ite_npos (fun z => by cases z) ?_
            walk_at "z"
            refine ⟨_, _, 0, some 7, _, rfl, T.kd_BOUNDS_gate, T.kt_BOUNDS_gate, ?_⟩
            have eg : within 0 (some 7) g = okP g := rfl
            rw [eg]
            have s3g := s3 g rfl
            dsimp only at nx bad
            cases hog : okP g with
            | false =>
              walk_at "z"
              refine s_mkO ?_
              walk_at "z"
              refine js_step 0 20 (by decide +kernel) (by decide +kernel) (by decide) fun b1 => ?_
              walk_at "z"
              refine s_fmtI s3g.log ?_
              refine js_step _ 1921 b1 s3g.len (by decide) fun b2 => ?_
              walk_at "z"
              exact use_pike T.pk_BadNet (k2 (bad (by rw [hog]; rfl)))
            | true =>
              walk_at "z"
              rw [hog] at nx
              exact ⟨_, _, _, rfl, rfl, nx⟩
    · obtain ⟨_, _, _, rfl, rfl, hall⟩ := h
      rw [hlen, List.take_length] at hall
      exact k1 (by
        unfold netOk
        rw [hall, decide_eq_true hle]
        rfl)
/-- where one comes by a road from a place -/
def endOf (r : Road) (p : Int) : Option Int := if r.a = p then some r.b else if r.b = p then some r.a else none
def spEnd (K : PySem.W.Frag) : Sp := fun vs H Q _ => ∃ (v : V) (r : Road) (p : Int), vs = [v, .int p] ∧ RoadAt K H v r ∧ Q (optV (endOf r p)) H
theorem sc_p_far_end : FnScope ["road", "place"] ["road", "place"] (defScope s_p_far_end) :=
  ⟨rfl, rfl, rfl, by decide +kernel, rfl, by decide +kernel, by decide +kernel⟩
theorem ok_p_far_end (T : Tx P K mg w) : FnOk P w K mg base CX0 1 T.f_p_far_end T.d_p_far_end ["road", "place"] (spEnd K) := by
  refine T.F_p_far_end.ok sc_p_far_end (fun vs H Q E h => ?_) (fun cdv A outer s H vs Q E hr h => ?_)
  · obtain ⟨v, r, p, rfl, _⟩ := h
    rfl
  · obtain ⟨v, r, p, rfl, ⟨q, rfl, hq⟩, k⟩ := h
    unfold Road.v at hq
    unfold endOf at k
    refine ⟨_, (pss_cons (ps_if (pt_cmpR op_eq (pe_ix (r := rIxT K) ix_tup (pv 0) pe_int (fun _ _ => rfl)) (pv 1) (nomark _)) (pss_one (ps_ret (pe_ix (r := rIxT K) ix_tup (pv 0) pe_int (fun _ _ => rfl)))) pss_nil) (pss_cons (ps_if (pt_cmpR op_eq (pe_ix (r := rIxT K) ix_tup (pv 0) pe_int (fun _ _ => rfl)) (pv 1) (nomark _)) (pss_one (ps_ret (pe_ix (r := rIxT K) ix_tup (pv 0) pe_int (fun _ _ => rfl)))) pss_nil) (pss_one (ps_ret pe_non)))), ?_⟩
    refine at_start (ρ' := [some _, some _]) rfl ?_
    walk_at "z0"
    walk_at "z"
    refine ite_dec (fun h1 => ?_) (fun h1 => ?_)
    · walk_at "z"
      rw [if_pos h1] at k
      exact k
    · walk_at "z"
      rw [if_neg h1] at k
      refine ite_dec (fun h2 => ?_) (fun h2 => ?_)
      · walk_at "z"
        rw [if_pos h2] at k
        exact k
      · walk_at "z"
        rw [if_neg h2] at k
        exact k

/-! going out from a place, road by road: the places in the order in which they are come to, with the steps to each -/
abbrev Bfs := List (Int × Nat)
def keysB (S : Bfs) : List Int := S.map (·.1)
def stepR (p : Int) (d : Nat) (S : Bfs) (r : Road) : Bfs := match endOf r p with
  | none => S
  | some e => if e ∈ keysB S then S else S ++ [(e, d + 1)]
def grow (rs : List Road) (p : Int) (d : Nat) (S : Bfs) : Bfs := rs.foldl (stepR p d) S
def bfs (rs : List Road) (one : Int) : Nat → Bfs
  | 0 => [(one, 0)]
  | i + 1 => match (bfs rs one i)[i]? with
    | some (p, d) => grow rs p d (bfs rs one i)
    | none => bfs rs one i
theorem stepR_pre (p : Int) (d : Nat) (S : Bfs) (r : Road) : S <+: stepR p d S r := by
  unfold stepR
  split
  · exact List.prefix_refl _
  · split
    · exact List.prefix_refl _
    · exact List.prefix_append _ _
theorem grow_pre (p : Int) (d : Nat) : ∀ (rs : List Road) (S : Bfs), S <+: grow rs p d S
  | [], S => List.prefix_refl _
  | r :: rs, S => (stepR_pre p d S r).trans (grow_pre p d rs _)
theorem bfs_pre (rs : List Road) (one : Int) (i : Nat) : bfs rs one i <+: bfs rs one (i + 1) := by
  show _ <+: (match (bfs rs one i)[i]? with | some (p, d) => grow rs p d (bfs rs one i) | none => bfs rs one i)
  split
  · exact grow_pre _ _ _ _
  · exact List.prefix_refl _
theorem bfs_mono (rs : List Road) (one : Int) {i j : Nat} (h : i ≤ j) : bfs rs one i <+: bfs rs one j := by
  induction h with
  | refl => exact List.prefix_refl _
  | step h ih => exact ih.trans (bfs_pre rs one _)
/-- every place stands once, and is one -/
structure GoodB (S : Bfs) : Prop where
  nd : (keysB S).Nodup
  ok : ∀ p ∈ S, 0 ≤ p.1 ∧ p.1 ≤ 7
theorem end_ok {r : Road} (h : r.ok = true) {p e : Int} (he : endOf r p = some e) : 0 ≤ e ∧ e ≤ 7 := by
  unfold Road.ok at h
  simp only [Bool.and_eq_true] at h
  obtain ⟨h1, h2, _⟩ := h
  unfold endOf at he
  split at he
  · cases he
    exact okP_iff.mp h2
  · split at he
    · cases he
      exact okP_iff.mp h1
    · cases he
theorem stepR_good {p : Int} {d : Nat} {S : Bfs} {r : Road} (g : GoodB S) (hr : r.ok = true) : GoodB (stepR p d S r) := by
  unfold stepR
  split
  · exact g
  · rename_i e he
    split
    · exact g
    · rename_i hn
      refine ⟨?_, fun x hx => ?_⟩
      · unfold keysB
        rw [List.map_append]
        refine List.nodup_append.mpr ⟨g.nd, by simp, fun a ha b hb => ?_⟩
        simp only [List.map_cons, List.map_nil, List.mem_singleton] at hb
        subst hb
        intro z
        exact hn (z ▸ ha)
      · rcases List.mem_append.mp hx with hx | hx
        · exact g.ok x hx
        · rw [List.mem_singleton] at hx
          subst hx
          exact end_ok hr he
theorem grow_good {p : Int} {d : Nat} : ∀ {rs : List Road} {S : Bfs}, GoodB S → (∀ r ∈ rs, r.ok = true) → GoodB (grow rs p d S)
  | [], _, g, _ => g
  | r :: rs, S, g, h => grow_good (rs := rs) (stepR_good g (h r List.mem_cons_self)) fun x hx => h x (List.mem_cons_of_mem _ hx)
theorem bfs_good {rs : List Road} {one : Int} (h1 : okP one = true) (h : ∀ r ∈ rs, r.ok = true) : ∀ i, GoodB (bfs rs one i)
  | 0 => ⟨by
    show [one].Nodup
    simp, fun p hp => by
    have : p = (one, 0) := List.mem_singleton.mp hp
    subst this
    exact okP_iff.mp h1⟩
  | i + 1 => by
    show GoodB (match (bfs rs one i)[i]? with | some (p, d) => grow rs p d (bfs rs one i) | none => bfs rs one i)
    split
    · exact grow_good (bfs_good h1 h i) h
    · exact bfs_good h1 h i
theorem few_places : ∀ (n : Nat) (l : List Int), l.Nodup → (∀ x ∈ l, 0 ≤ x ∧ x < n) → l.length ≤ n
  | 0, l, _, h => by
    cases l with
    | nil => exact Nat.le_refl _
    | cons x l =>
      have := h x List.mem_cons_self
      omega
  | n + 1, l, nd, h => by
    by_cases hm : (n : Int) ∈ l
    · have h1 := List.length_erase_of_mem hm
      have h2 := few_places n (l.erase (n : Int)) (nd.erase _) fun x hx => by
        have hx2 := (nd.mem_erase_iff).mp hx
        have := h x hx2.2
        omega
      omega
    · have := few_places n l nd fun x hx => by
        have h1 := h x hx
        have : x ≠ n := fun z => hm (z ▸ hx)
        omega
      omega
theorem good_len {S : Bfs} (g : GoodB S) : S.length ≤ 8 := by
  have := few_places 8 (keysB S) g.nd fun x hx => by
    obtain ⟨p, hp, rfl⟩ := List.mem_map.mp hx
    have := g.ok p hp
    omega
  unfold keysB at this
  rw [List.length_map] at this
  exact this
theorem stepR_d {p : Int} {d : Nat} {S : Bfs} {r : Road} {x : Int × Nat} (h : x ∈ stepR p d S r) : x ∈ S ∨ x.2 = d + 1 := by
  unfold stepR at h
  split at h
  · exact .inl h
  · split at h
    · exact .inl h
    · rcases List.mem_append.mp h with h | h
      · exact .inl h
      · rw [List.mem_singleton] at h
        subst h
        exact .inr rfl
theorem grow_d {p : Int} {d : Nat} {x : Int × Nat} : ∀ {rs : List Road} {S : Bfs}, x ∈ grow rs p d S → x ∈ S ∨ x.2 = d + 1
  | [], _, h => .inl h
  | r :: rs, S, h => by
    rcases grow_d (rs := rs) (S := stepR p d S r) h with h | h
    · exact stepR_d h
    · exact .inr h
theorem bfs_d (rs : List Road) (one : Int) : ∀ i, ∀ x ∈ bfs rs one i, x.2 ≤ i
  | 0, x, h => by
    have : x = (one, 0) := List.mem_singleton.mp h
    subst this
    exact Nat.le_refl _
  | i + 1, x, h => by
    have ih := bfs_d rs one i
    have h' : x ∈ (match (bfs rs one i)[i]? with | some (p, d) => grow rs p d (bfs rs one i) | none => bfs rs one i) := h
    split at h'
    · rename_i p d hpd
      have h1 := ih (p, d) (List.mem_of_getElem? hpd)
      rcases grow_d h' with h2 | h2
      · have := ih x h2
        omega
      · dsimp only at h1
        omega
    · have := ih x h'
      omega
/-- behind the eighth turn nothing is come to any more -/
theorem bfs_done {rs : List Road} {one : Int} (h1 : okP one = true) (h : ∀ r ∈ rs, r.ok = true) {i : Nat} (hi : (bfs rs one i).length ≤ i) : ∀ j, i ≤ j → bfs rs one j = bfs rs one i := by
  intro j hj
  induction hj with
  | refl => rfl
  | @step j hj ih =>
    show (match (bfs rs one j)[j]? with | some (p, d) => grow rs p d (bfs rs one j) | none => bfs rs one j) = _
    have hj2 : i ≤ j := hj
    rw [ih, List.getElem?_eq_none (by omega : (bfs rs one i).length ≤ j)]
/-- a way of so many steps -/
structure PathOk (rs : List Road) (one p : Int) (d : Nat) (l : List Int) : Prop where
  len : l.length = d + 1
  first : l[0]? = some one
  last : l[d]? = some p
  road : ∀ (j : Nat) x y, l[j]? = some x → l[j + 1]? = some y → ∃ r ∈ rs, endOf r x = some y
theorem path_more {rs : List Road} {one p e : Int} {d : Nat} {l : List Int} (h : PathOk rs one p d l) {r : Road} (hr : r ∈ rs) (he : endOf r p = some e) : PathOk rs one e (d + 1) (l ++ [e]) := by
  have hl := h.len
  refine ⟨by rw [List.length_append, hl]; rfl, ?_, ?_, fun j x y hx hy => ?_⟩
  · rw [List.getElem?_append_left (by omega)]
    exact h.first
  · rw [List.getElem?_append_right (by omega), hl, Nat.sub_self]
    rfl
  · by_cases hj : j + 1 < l.length
    · rw [List.getElem?_append_left (by omega)] at hx
      rw [List.getElem?_append_left hj] at hy
      exact h.road j x y hx hy
    · have hj2 : j + 1 = l.length := by
        have := (List.getElem?_eq_some_iff.mp hy).1
        rw [List.length_append] at this
        have e1 : [e].length = 1 := rfl
        omega
      rw [List.getElem?_append_right (by omega), hj2, Nat.sub_self] at hy
      cases hy
      rw [List.getElem?_append_left (by omega)] at hx
      have : j = d := by omega
      rw [this, h.last] at hx
      cases hx
      exact ⟨r, hr, he⟩
theorem inV_ints9 (x : Int) (gs : List Int) : inV (.int x) (gs.map V.int) = decide (x ∈ gs) := by
  unfold inV
  rw [List.any_map]
  induction gs with
  | nil => rfl
  | cons y gs ih =>
    rw [List.any_cons, ih]
    show ((y == x) || _) = _
    by_cases h : y = x
    · subst h
      simp
    · have : ¬ x = y := fun z => h z.symm
      simp [h, this]
theorem inV_non (gs : List Int) : inV .non (gs.map V.int) = false := by
  unfold inV
  rw [List.any_map]
  induction gs with
  | nil => rfl
  | cons y gs ih =>
    rw [List.any_cons, ih]
    rfl
theorem flat_ints9 (l : List Int) : (l.map V.int).all flatV = true := List.all_eq_true.mpr fun x hx => by
  obtain ⟨n, _, rfl⟩ := List.mem_map.mp hx
  rfl
/-- a road that no one of the gates shuts -/
def opn (gates : List Int) (r : Road) : Bool := match r.g with | none => true | some g => !decide (g ∈ gates)
/-- no way, or a way by the fewest roads -/
def WayAt (K : PySem.W.Frag) (H : Hp) (rs : List Road) (one two : Int) (v : V) : Prop :=
  (two ∉ keysB (bfs rs one 8) ∧ v = .non) ∨ ∃ d q l, (two, d) ∈ bfs rs one 8 ∧ v = .ref q ∧ H q = some (.lst (l.map V.int)) ∧ PathOk rs one two d l
def spWay (K : PySem.W.Frag) (Cn Cp : Addr) : Sp := fun vs H Q E => ∃ (l g : Addr) (net : List Road) (gs : List Int) (one two : Int), vs = [.ref l, .ref g, .int one, .int two] ∧ NetAt K H l net ∧ (∀ r ∈ net, r.sm) ∧ net.length ≤ 1000 ∧ SqL K H g (gs.map V.int) ∧ gs.length ≤ 100 ∧ Sm one ∧ Sm two ∧
  (netOk net = true → okP one = true → okP two = true → ∀ v H', Ex H H' → WayAt K H' (net.filter (opn gs)) one two v → (∀ q, v = .ref q → H q = none) → Q v H') ∧
  (netOk net = false → ∀ d, H d = none → E (.ref Cn) (some d) (upd H d (.xd [("called", .str "BadNet")]))) ∧
  (netOk net = true → (okP one && okP two) = false → ∀ d, H d = none → E (.ref Cp) (some d) (upd H d (.xd [("called", .str "BadPlace")])))
theorem s_pairV {tk tv : TE} {r : List (TE × TE)} {σ : L2.St} {H : Hp} {Q : List (V × V) → Hp → Prop} (k : tk σ H fun x H1 => tv σ H1 fun y H2 => tPairs r σ H2 fun ps H3 => Q ((x, y) :: ps) H3) : tPairs ((tk, tv) :: r) σ H Q := k
theorem s_pairN9 {σ : L2.St} {H : Hp} {Q : List (V × V) → Hp → Prop} (k : Q [] H) : tPairs [] σ H Q := k
theorem s_starL {te : TE} {t : TA} {σ : L2.St} {H : Hp} {Q : List V → Hp → Prop} (k : te σ H fun x H1 => ∃ p xs, x = V.ref p ∧ (SqT K H1 p xs ∨ SqL K H1 p xs) ∧ t σ H1 fun ys H2 => Q (xs ++ ys) H2) : StX.tStar K te t σ H Q := k
theorem path_one (rs : List Road) (one : Int) : PathOk rs one one 0 [one] := ⟨rfl, rfl, rfl, fun j x y _ h => by simp at h⟩
theorem putK_none {kvs : List (Key × V)} {k : Key} {v : V} (h : valV kvs k = none) : putK kvs k v = kvs ++ [(k, v)] := by
  unfold putK
  rw [if_neg]
  rw [valV_any, h]
  decide
/-- what stands at the while -/
structure WayI (K : PySem.W.Frag) (H0 H : Hp) (rs : List Road) (one : Int) (D c : Addr) (S : Bfs) (kvs : List (Key × V)) : Prop where
  dc : H D = some (.dK kvs)
  cc : H c = some (.lst ((keysB S).map V.int))
  keys : ∀ x : Int, (valV kvs (.inl x)).isSome = true ↔ x ∈ keysB S
  path : ∀ p d, (p, d) ∈ S → ∃ q l, valV kvs (.inl p) = some (.ref q) ∧ (q ≠ c ∧ H0 q = none) ∧ H q = some (.lst (l.map V.int)) ∧ PathOk rs one p d l
  len : kvs.length = S.length
theorem sc_p_way_round : FnScope ["net", "gates", "one", "other", "shut", "open_roads", "ways", "come_to", "at", "place", "road", "end", "gate"] ["net", "gates", "one", "other"] (defScope s_p_way_round) :=
  ⟨rfl, rfl, rfl, by decide +kernel, rfl, by decide +kernel, by decide +kernel⟩
theorem ok_p_way_round (T : Tx P K mg w) : FnOk P w K mg base (CX P w) 4 T.f_p_way_round T.d_p_way_round ["net", "gates", "one", "other"] (spWay K T.C_BadNet T.C_BadPlace) := by
  refine T.F_p_way_round.okX sc_p_way_round (fun vs H Q E h => ?_) (fun cdv A outer s H vs Q E hr h => ?_)
  · obtain ⟨l, g, net, gs, one, two, rfl, _⟩ := h
    rfl
  · obtain ⟨l, g, net, gs, one, two, rfl, hn, sm, hz, hg, hgz, s1, s2, k1, k2, k3⟩ := h
    refine ⟨_, (pss_cons (ps_expr (pe_call (ok_p_need_net T) (hr.mono (by decide)) rfl T.g_p_need_net T.F_p_need_net.kp T.b_p_need_net .nil (passes_up (takes_of rfl rfl rfl rfl) fun _ _ _ _ h => h) (pa_cons (pv 0) pa_nil))) (pss_cons (ps_expr (pe_call (ok_p_need_place T) (hr.mono (by decide)) rfl T.g_p_need_place T.F_p_need_place.kp T.b_p_need_place .nil (passes_up (takes_of rfl rfl rfl rfl) fun _ _ _ _ h => h) (pa_cons (pv 2) pa_nil))) (pss_cons (ps_expr (pe_call (ok_p_need_place T) (hr.mono (by decide)) rfl T.g_p_need_place T.F_p_need_place.kp T.b_p_need_place .nil (passes_up (takes_of rfl rfl rfl rfl) fun _ _ _ _ h => h) (pa_cons (pv 3) pa_nil))) (pss_cons (ps_set (i := 4) sc_p_way_round.nd rfl (Or.inr rfl) (pe_lc (own := [("gate", 12)]) (by rfl) sc_p_way_round.nd (pi_list (pv 1)) (blkOk_by (own := [("gate", 12)]) (N := ["net", "gates", "one", "other", "shut", "open_roads", "ways", "come_to", "at", "place", "road", "end", "gate"]) (sc := defScope s_p_way_round) (by decide +kernel)) (fun _ _ _ _ _ => (pg_name (i := 12) sc_p_way_round.nd rfl (Or.inl rfl))) (fun _ _ _ _ _ => (pts_one (pt_val (pe_call (ok_p_is_good T) (hr.mono (by decide)) rfl T.g_p_is_good T.F_p_is_good.kp T.b_p_is_good .nil pass0 (pa_cons pe_str (pa_cons (pv 12) pa_nil)))))) (fun _ _ _ _ _ => (pv 12)))) (pss_cons (ps_setLc (i := 5) (own := [("road", 10)]) (by rfl) sc_p_way_round.nd rfl rfl (sw_true rfl rfl rfl (by decide +kernel)) (pi_list (pv 0)) (blkOk_by (own := [("road", 10)]) (N := ["net", "gates", "one", "other", "shut", "open_roads", "ways", "come_to", "at", "place", "road", "end", "gate"]) (sc := defScope s_p_way_round) (by decide +kernel)) (fun _ _ _ _ _ => (pg_name (i := 10) sc_p_way_round.nd rfl (Or.inl rfl))) (fun _ _ _ _ _ => (pts_one (pt_cmpR (r := rIn K true) op_notIn_seq (pe_ix (r := rIxT K) ix_tup (pv 10) pe_int (fun _ _ => rfl)) (pv 4) (by rfl)))) (fun _ _ _ _ _ => (pv 10))) (pss_cons (ps_set (i := 6) sc_p_way_round.nd rfl (Or.inl rfl) (pe_disp (pps_cons (pv 2) (pe_lst (pa_cons (pv 2) pa_nil)) pps_nil) rfl rfl (by simp) (by decide))) (pss_cons (ps_set (i := 7) sc_p_way_round.nd rfl (Or.inl rfl) (pe_lst (pa_cons (pv 2) pa_nil))) (pss_cons (ps_set (i := 8) sc_p_way_round.nd rfl (Or.inl rfl) pe_int) (pss_cons (ps_while (passes_of rfl) (pt_cmpR op_lt (pv 8) (pe_callB (r := Z.rLen K) cz_len (by rfl) T.z_len PySem.boot_len (pa_cons (pv 7) pa_nil)) (nomark _)) (pss_cons (ps_set (i := 9) sc_p_way_round.nd rfl (Or.inl rfl) (pe_ix (r := rIxL K) ix_list (pv 7) (pv 8) (fun _ _ => rfl))) (pss_cons (ps_set (i := 8) sc_p_way_round.nd rfl (Or.inl rfl) (pe_op op_add (pv 8) pe_int)) (pss_one (ps_for (passes_of rfl) rfl (pi_list (pv 5)) (pg_name (i := 10) sc_p_way_round.nd rfl (Or.inl rfl)) (pss_cons (ps_set (i := 11) sc_p_way_round.nd rfl (Or.inl rfl) (pe_call (ok_p_far_end T) (hr.mono (by decide)) rfl T.g_p_far_end T.F_p_far_end.kp T.b_p_far_end .nil pass0 (pa_cons (pv 10) (pa_cons (pv 9) pa_nil)))) (pss_one (ps_if (PW.pt (pw_and (pt_cmpR op_notN1 (pv 11) pe_non (nomark _)) (pw_and1 (pt_cmp (pc_dnotin (hu_of hr) (pv 11) (pv 6)))))) (pss_cons (ps_dput (hu_of hr) (pv 6) (pv 11) (pe_lst (StX.pa_star (pe_dget (hu_of hr) (pv 6) (pv 9) (fun _ _ => rfl)) (pa_cons (pv 11) pa_nil))) rfl) (pss_one (ps_expr (pe_bm PySem.F.plainAttrs_list PySem.F.slot_list_append PySem.F.type_list_append mt_append (pv 7) (pa_cons (pv 11) pa_nil))))) pss_nil)))))))) (pss_one (ps_ret (pe_dget1 (hu_of hr) (pv 6) (pv 3) (by constructor <;> rfl))))))))))))), ?_⟩
    refine at_start (ρ' := [some _, some _, some _, some _, none, none, none, none, none, none, none, none, none]) rfl ?_
    walk_at "z0"
    walk_at "z"
    refine ⟨l, net, rfl, hn, sm, hz, fun ok1 => ?_, fun z d hd => k2 z d hd⟩
    walk_at "z"
    refine ⟨one, rfl, s1, fun ok2 => ?_, fun z d hd => k3 ok1 (by rw [z]; rfl) d hd⟩
    walk_at "z"
    refine ⟨two, rfl, s2, fun ok3 => ?_, fun z d hd => k3 ok1 (by rw [z, Bool.and_false]) d hd⟩
    replace k1 := k1 ok1 ok2 ok3
    clear k2 k3
    obtain ⟨vs, hl, hr2⟩ := hn
    have hlen := hr2.len
    walk_at "z"
    refine c_list (gs.map V.int) hg (fun D H' => H D = none ∧ Ex H H') (fun D i acc H' => acc = ((gs.take i).filter okP).map V.int) (fun D H' n e _ => ⟨⟨n, e⟩, rfl⟩) (fun D H' Iv => Iv.2.sqL hg) (fun D i acc H1 x hx Iv hD hn r => ?_) (fun D acc H1 Iv hD hn r => ?_)
    · obtain ⟨nD, e1⟩ := Iv
      rw [List.getElem?_map] at hx
      obtain ⟨n, hn1, rfl⟩ := Option.map_eq_some_iff.mp hx
      have hi : i < gs.length := (List.getElem?_eq_some_iff.mp hn1).1
      walk_at "z"
      refine ⟨rfl, ?_⟩
      walk_at "z"
      refine ⟨_, _, 0, some 7, _, rfl, T.kd_BOUNDS_gate, T.kt_BOUNDS_gate, ?_⟩
      have ea : within 0 (some 7) n = okP n := rfl
      rw [ea]
      have nx : ((gs.take (i + 1)).filter okP).map V.int = ((gs.take i).filter okP).map V.int ++ if okP n = true then [V.int n] else [] := by
        rw [List.take_succ, hn1, List.filter_append, List.map_append]
        cases ho : okP n <;> simp [ho]
      cases ho : okP n with
      | true =>
        walk_at "z"
        refine c_put hD ⟨hn, by omega⟩ fun H3 f3 _ => ⟨⟨nD, e1.fr2 nD f3⟩, ?_⟩
        rw [nx, r, ho]
        rfl
      | false =>
        walk_at "z"
        refine c_skip hD hn ⟨nD, e1⟩ ?_
        rw [nx, r, ho]
        exact (List.append_nil _).symm
    obtain ⟨nS, e1⟩ := Iv
    rw [List.length_map, List.take_length] at r
    subst r
    walk_at "z"
    refine c_list vs (e1.sqL hl) (fun OL H' => H1 OL = none ∧ Ex H1 H') (fun OL i acc H' => All2 (RoadAt K H') acc ((net.take i).filter (opn gs))) (fun OL H' n e _ => ⟨⟨n, e⟩, .nil⟩) (fun OL H' Iv => Iv.2.sqL (e1.sqL hl)) (fun OL i acc H2 x hx Iv hD2 hn2 r => ?_) (fun OL acc H2 Iv hD2 hn2 r => ?_)
    · obtain ⟨nO, e2⟩ := Iv
      obtain ⟨rd, hr1, p, rfl, hp⟩ := hr2.get hx
      have hi : i < vs.length := (List.getElem?_eq_some_iff.mp hx).1
      have hp2 := (e1.trans e2).sqT hp
      have okr : rd.ok = true := by
        unfold netOk at ok1
        rw [Bool.and_eq_true] at ok1
        exact List.all_eq_true.mp ok1.2 rd (List.mem_of_getElem? hr1)
      have nx : (net.take (i + 1)).filter (opn gs) = (net.take i).filter (opn gs) ++ if opn gs rd = true then [rd] else [] := by
        rw [List.take_succ, hr1, List.filter_append]
        cases ho : opn gs rd <;> simp [ho]
      obtain ⟨ra, rb, rg⟩ := rd
      unfold Road.v at hp2
      dsimp only at hp2
      have inq : inV (optV rg) ((gs.filter okP).map V.int) = !opn gs ⟨ra, rb, rg⟩ := by
        cases rg with
        | none => exact inV_non _
        | some g0 =>
          have okg : okP g0 = true := by
            unfold Road.ok at okr
            simp only [Bool.and_eq_true] at okr
            exact okr.2.2
          show inV (.int g0) _ = _
          rw [inV_ints9]
          unfold opn
          rw [Bool.not_not]
          exact decide_eq_decide.mpr ⟨fun z => (List.mem_filter.mp z).1, fun z => List.mem_filter.mpr ⟨z, okg⟩⟩
      have fl : flatV (optV rg) = true := by cases rg <;> rfl
      walk_at "z"
      refine ⟨rfl, ?_⟩
      walk_at "z"
      refine s_rNotInSeq (.inl (SqL.of (e2 _ _ hD))) fl (flat_ints9 _) ?_
      rw [inq, Bool.not_not]
      cases ho : opn gs ⟨ra, rb, rg⟩ with
      | true =>
        walk_at "z"
        refine c_put hD2 ⟨hn2, by omega⟩ fun H3 f3 _ => ⟨⟨nO, e2.fr2 nO f3⟩, ?_⟩
        have t3 := tk_lst (K := K) f3 hD2
        rw [nx, ho]
        exact (r.mono fun _ _ ⟨q, q1, q2⟩ => ⟨q, q1, t3 _ _ q2⟩).snoc ⟨p, rfl, t3 _ _ hp2⟩
      | false =>
        walk_at "z"
        refine c_skip hD2 hn2 ⟨nO, e2⟩ ?_
        rw [nx, ho]
        show All2 (RoadAt K H2) acc (_ ++ [])
        rw [List.append_nil]
        exact r
    obtain ⟨nO, e2⟩ := Iv
    rw [hlen, List.take_length] at r
    walk_at "z"
    intro DW nW
    refine s_pairV ?_
    walk_at "z"
    rename_i q0 H3 nq0 e3 hq0
    have hW3 : H3 DW = some (.dK []) := e3 _ _ upd_same
    refine s_pairN9 ⟨hW3, [(.inl one, .ref q0)], rfl, by show 1 ≤ 15; decide, ?_⟩
    have ek : mergeK [] [((Sum.inl one : Key), V.ref q0)] = [(Sum.inl one, V.ref q0)] := rfl
    rw [ek]
    have nq0H : H q0 = none := Ex.back ((e1.trans e2).trans (Ex.new nW)) nq0
    have e24 : Ex H2 (upd H3 DW (.dK [(.inl one, .ref q0)])) := ((Ex.new nW).trans e3).mut nW
    have hq4 : (upd H3 DW (.dK [(.inl one, .ref q0)])) q0 = some (.lst [.int one]) := by
      rw [upd_ne (ne_of hq0 hW3 (fun z => by cases z))]
      exact hq0
    have hW4 : (upd H3 DW (.dK [(.inl one, .ref q0)])) DW = some (.dK [(.inl one, .ref q0)]) := upd_same
    generalize upd H3 DW (.dK [(.inl one, .ref q0)]) = H4 at e24 hq4 hW4
    clear hW3 e3 hq0
    walk_at "z"
    rename_i cl H5 ncl e5 hcl
    have E5 : Ex H H5 := (e1.trans e2).trans (e24.trans e5)
    have nqc : q0 ≠ cl := ne_of_none hq4 ncl
    have hq5 := e5 _ _ hq4
    have hW5 := e5 _ _ hW4
    have hO5 := (e24.trans e5) _ _ hD2
    have hOc : OL ≠ cl := ne_of_none (e24 _ _ hD2) ncl
    have r5 := roads_ex (e24.trans e5) r
    have nWH : H DW = none := Ex.back (e1.trans e2) nW
    have ncH : H cl = none := Ex.back ((e1.trans e2).trans e24) ncl
    have okrs : ∀ x ∈ net.filter (opn gs), x.ok = true := fun x hx => by
      unfold netOk at ok1
      rw [Bool.and_eq_true] at ok1
      exact List.all_eq_true.mp ok1.2 x (List.mem_filter.mp hx).1
    generalize net.filter (opn gs) = rs at r r5 k1 okrs
    have kx : ∀ x : Int, (valV [((Sum.inl one : Key), V.ref q0)] (.inl x)).isSome = true ↔ x ∈ keysB (bfs rs one 0) := by
      intro x
      show _ ↔ x ∈ [one]
      by_cases hx : x = one
      · subst hx
        rw [valV_pos (p := ((Sum.inl x : Key), V.ref q0)) rfl]
        simp
      · rw [valV_neg (p := ((Sum.inl one : Key), V.ref q0)) (fun z => hx (by cases z; rfl))]
        simp [valV_nil, hx]
    have px : ∀ p d, (p, d) ∈ bfs rs one 0 → ∃ q l, valV [((Sum.inl one : Key), V.ref q0)] (.inl p) = some (.ref q) ∧ (q ≠ cl ∧ H q = none) ∧ H5 q = some (.lst (l.map V.int)) ∧ PathOk rs one p d l := by
      intro p d hpd
      have hp1 : (p, d) = (one, 0) := List.mem_singleton.mp hpd
      cases hp1
      exact ⟨q0, [one], valV_pos (p := ((Sum.inl one : Key), V.ref q0)) rfl, ⟨nqc, nq0H⟩, hq5, path_one rs one⟩
    have I0 : WayI K H H5 rs one DW cl (bfs rs one 0) [(.inl one, .ref q0)] := ⟨hW5, hcl, kx, px, rfl⟩
    have good := bfs_good (rs := rs) ok2 okrs
    clear hq4 hW4 hq5 hW5 hcl e24 e5 hD hD2 e1 e2 hl hr2 sm hg r hn2 hn nW ncl nO nS
    walk_at "z"
    refine l_while (fun m σ H' => ∃ (i : Nat) (v9 v10 v11 : Option V) (kvs : List (Key × V)), m + i = 9 ∧ i ≤ (bfs rs one i).length ∧ σ = [some (.ref l), some (.ref g), some (.int one), some (.int two), some (.ref D), some (.ref OL), some (.ref DW), some (.ref cl), some (.int (i : Nat)), v9, v10, v11, none] ∧ Ex H H' ∧ WayI K H H' rs one DW cl (bfs rs one i) kvs ∧ H' OL = some (.lst acc) ∧ All2 (RoadAt K H') acc rs) ⟨9, 0, _, _, _, _, rfl, Nat.zero_le _, rfl, E5, I0, hO5, r5⟩ (fun m σ H6 h => ?_)
    obtain ⟨i, v9, v10, v11, kvs, hm, hi, rfl, E6, I6, hO6, r6⟩ := h
    clear I0 E5 hO5 r5
    have hc6 := I6.cc
    have hB := good i
    have hB8 := good_len hB
    walk_at "z"
    have hkl : ((keysB (bfs rs one i)).map V.int).length = (bfs rs one i).length := by
      rw [List.length_map]
      exact List.length_map ..
    rw [hkl]
    refine ite_dec (fun hlt => ?_) (fun hge => ?_)
    · have hlt2 : i < (bfs rs one i).length := by omega
      obtain ⟨⟨p, d⟩, hpd⟩ : ∃ x, (bfs rs one i)[i]? = some x := ⟨_, List.getElem?_eq_getElem hlt2⟩
      have hb1 : bfs rs one (i + 1) = grow rs p d (bfs rs one i) := by
        show (match (bfs rs one i)[i]? with | some (p, d) => grow rs p d (bfs rs one i) | none => bfs rs one i) = _
        rw [hpd]
      have hpre := bfs_pre rs one i
      have hmem := List.mem_of_getElem? hpd
      have hdi : d ≤ i := bfs_d rs one i (p, d) hmem
      rw [hb1] at hpre
      generalize hS : bfs rs one i = S at I6 hc6 hB hB8 hpd hb1 hpre hmem hi hlt hlt2 hkl
      refine s_whB ?_
      walk_at "z"
      refine s_ixL (SqL.of hc6) (atI_nat (v := .int p) (by
        unfold keysB
        rw [List.map_map, List.getElem?_map, hpd]
        rfl)) ?_
      walk_at "z"
      have hal := r6.len
      refine l_list acc (fun j σ H' => ∃ (v10 v11 : Option V) (kvs : List (Key × V)), σ = [some (.ref l), some (.ref g), some (.int one), some (.int two), some (.ref D), some (.ref OL), some (.ref DW), some (.ref cl), some (.int ((i : Int) + 1)), some (.int p), v10, v11, none] ∧ Ex H H' ∧ WayI K H H' rs one DW cl ((rs.take j).foldl (stepR p d) S) kvs ∧ H' OL = some (.lst acc) ∧ All2 (RoadAt K H') acc rs) ⟨_, _, _, rfl, E6, I6, hO6, r6⟩ (fun j σ H' hj h => ?_) (fun j x σ H7 hx h => ?_) (fun σ H7 h => ?_)
      · obtain ⟨_, _, _, rfl, _, _, hO, _⟩ := h
        exact SqL.of hO
      · clear I6 hO6 r6 hc6
        obtain ⟨v10, v11, kv2, rfl, E7, I7, hO7, r7⟩ := h
        obtain ⟨r, hr1, hr⟩ := r7.get hx
        have hrs := List.mem_of_getElem? hr1
        have hnx : (rs.take (j + 1)).foldl (stepR p d) S = stepR p d ((rs.take j).foldl (stepR p d) S) r := by
          rw [List.take_succ, hr1, List.foldl_append]
          rfl
        have hGS : GoodB ((rs.take j).foldl (stepR p d) S) := grow_good hB fun r hr => okrs r (List.mem_of_mem_take hr)
        have hmS : (p, d) ∈ (rs.take j).foldl (stepR p d) S := (grow_pre p d (rs.take j) S).subset hmem
        generalize hS2 : (rs.take j).foldl (stepR p d) S = S2 at I7 hGS hmS hnx
        have hl8 := good_len hGS
        obtain ⟨q, pl, hq1, hq2, hq3, hq4⟩ := I7.path p d hmS
        walk_at "z"
        refine ⟨_, r, p, rfl, hr, ?_⟩
        walk_at "z"
        have hstep : stepR p d S2 r = match endOf r p with | none => S2 | some e => if e ∈ keysB S2 then S2 else S2 ++ [(e, d + 1)] := rfl
        cases he : endOf r p with
        | none =>
          rw [he] at hstep
          dsimp only [optV]
          walk_at "z"
          exact ⟨_, _, kv2, rfl, E7, by rw [hnx, hstep]; exact I7, hO7, r7⟩
        | some e =>
          rw [he] at hstep
          dsimp only [optV] at hstep ⊢
          refine ite_npos (fun z => by cases z) ?_
          refine s_tDNotIn ?_
          walk_at "z"
          refine s_dnotinI I7.dc ?_
          have hke := I7.keys e
          cases hv : valV kv2 (.inl e) with
          | some v0 =>
            rw [hv] at hke
            walk_at "z"
            rw [if_pos (hke.mp rfl)] at hstep
            exact ⟨_, _, kv2, rfl, E7, by rw [hnx, hstep]; exact I7, hO7, r7⟩
          | none =>
            rw [hv] at hke
            have hne : e ∉ keysB S2 := fun z => by
              have := hke.mpr z
              cases this
            rw [if_neg hne] at hstep
            walk_at "z"
            have hpl := hq4.len
            have hpz : pl.length ≤ 10 := by omega
            refine s_tDPut ?_
            walk_at "z"
            refine s_starL ?_
            refine s_tDGet ?_
            walk_at "z"
            refine s_dgetI I7.dc hq1 ?_
            refine ⟨q, _, rfl, .inr (SqL.of hq3), ?_⟩
            refine s_cons ?_
            walk_at "z1"
            walk_at "z1"
            refine s_newS (sz (by
              rw [List.length_append, List.length_map]
              show pl.length + 1 ≤ 100000
              omega)) fun q8 H8 n8 e8 hq8 => ?_
            walk_at "z"
            have hkv := I7.len
            refine s_dputI (e8 _ _ I7.dc) (by omega) fun H9 f9 hD9 => ?_
            walk_at "z"
            have ncD : cl ≠ DW := ne_of I7.cc I7.dc (fun z => by cases z)
            have hc9 : H9 cl = some (.lst ((keysB S2).map V.int)) := f9 _ _ ncD (e8 _ _ I7.cc)
            have hks : ((keysB S2).map V.int).length ≤ 1000 := by
              rw [List.length_map]
              unfold keysB
              rw [List.length_map]
              omega
            refine s_tyL (SqL.of hc9) ?_
            walk_at "z"
            refine s_app hc9 (szl (by omega)) fun H10 f10 hc10 => ?_
            have t9 := tk_dK (K := K) f9 (e8 _ _ I7.dc)
            have t10 := tk_lst (K := K) f10 hc9
            have lst_up : ∀ {a : Addr} {xs : List V}, a ≠ cl → H8 a = some (.lst xs) → H10 a = some (.lst xs) := fun na ha => f10 _ _ na (f9 _ _ (ne_of ha (e8 _ _ I7.dc) (fun z => by cases z)) ha)
            have E10 : Ex H H10 := ((E7.trans e8).fr2 nWH f9).fr2 ncH f10
            have hq8c : q8 ≠ cl := fun z => by
              rw [z, I7.cc] at n8
              cases n8
            have hkp : ∀ x : Int, valV (putK kv2 (Sum.inl e) (V.ref q8)) (.inl x) = if x = e then some (.ref q8) else valV kv2 (.inl x) := fun x => by
              rw [valV_put]
              by_cases hx : x = e
              · subst hx
                rw [if_pos rfl, if_pos rfl]
              · rw [if_neg hx, if_neg (fun z => hx (by cases z; rfl))]
            have I10 : WayI K H H10 rs one DW cl (S2 ++ [(e, d + 1)]) (putK kv2 (Sum.inl e) (V.ref q8)) := by
              refine ⟨f10 _ _ (Ne.symm ncD) hD9, ?_, fun x => ?_, fun p' d' hp' => ?_, ?_⟩
              · unfold keysB at hc10 ⊢
                rw [List.map_append, List.map_append]
                exact hc10
              · rw [hkp]
                unfold keysB
                rw [List.map_append, List.mem_append]
                by_cases hx : x = e
                · rw [if_pos hx]
                  simp [hx]
                · rw [if_neg hx]
                  have := I7.keys x
                  unfold keysB at this
                  rw [this]
                  simp [hx]
              · rcases List.mem_append.mp hp' with hp' | hp'
                · have hx : p' ≠ e := fun z => hne (by
                    unfold keysB
                    exact List.mem_map.mpr ⟨(p', d'), hp', z⟩)
                  obtain ⟨qq, ll, g1, g2, g3, g4⟩ := I7.path p' d' hp'
                  refine ⟨qq, ll, ?_, g2, lst_up g2.1 (e8 _ _ g3), g4⟩
                  rw [hkp, if_neg hx]
                  exact g1
                · have he2 : (p', d') = (e, d + 1) := List.mem_singleton.mp hp'
                  cases he2
                  refine ⟨q8, pl ++ [e], ?_, ⟨hq8c, Ex.back E7 n8⟩, lst_up hq8c ?_, path_more hq4 hrs he⟩
                  · rw [hkp, if_pos rfl]
                  · rw [List.map_append]
                    exact hq8
              · rw [putK_none hv, List.length_append, List.length_append, hkv]
                rfl
            exact ⟨_, _, _, rfl, E10, by rw [hnx, hstep]; exact I10, lst_up hOc (e8 _ _ hO7), r7.mono fun _ _ ⟨qq, g1, g2⟩ => ⟨qq, g1, t10 _ _ (t9 _ _ (e8.sqT g2))⟩⟩
      · clear I6 hO6 r6 hc6
        obtain ⟨v10, v11, kv2, rfl, E7, I7, hO7, r7⟩ := h
        rw [hal, List.take_length] at I7
        have hg1 : rs.foldl (stepR p d) S = bfs rs one (i + 1) := hb1.symm
        rw [hg1] at I7
        refine ⟨m - 1, by omega, i + 1, _, _, _, kv2, by omega, ?_, rfl, E7, I7, hO7, r7⟩
        rw [hb1]
        have := hpre.length_le
        omega
    · have h8 := bfs_done ok2 okrs (i := i) (by omega) 8 (by omega)
      walk_at "z"
      refine s_tDGet1 ?_
      walk_at "z"
      refine ⟨DW, rfl, .inl ⟨_, .inl I6.dc⟩, ?_⟩
      walk_at "z"
      refine s_dget2I I6.dc ?_
      unfold WayAt at k1
      rw [h8] at k1
      have hk := I6.keys two
      cases hv : valV kvs (.inl two) with
      | none =>
        rw [hv] at hk
        have hnk : two ∉ keysB (bfs rs one i) := fun z => by
          have := hk.mpr z
          cases this
        exact k1 _ H6 E6 (.inl ⟨hnk, rfl⟩) (fun q z => by cases z)
      | some v0 =>
        rw [hv] at hk
        obtain ⟨⟨p, d⟩, hpm, hp1⟩ := List.mem_map.mp (hk.mp rfl)
        dsimp only at hp1
        subst hp1
        obtain ⟨q, pl, hq1, hq2, hq3, hq4⟩ := I6.path _ d hpm
        rw [hv] at hq1
        cases hq1
        exact k1 _ H6 E6 (.inr ⟨d, q, pl, hpm, rfl, hq3, hq4⟩) (fun q2 z => by cases z; exact hq2.2)

/-! barred; the law's roads -/
def spBar (K : PySem.W.Frag) (Cn Cp : Addr) : Sp := fun vs H Q E => ∃ (l g : Addr) (net : List Road) (gs : List Int) (one two : Int), vs = [.ref l, .ref g, .int one, .int two] ∧ NetAt K H l net ∧ (∀ r ∈ net, r.sm) ∧ net.length ≤ 1000 ∧ SqL K H g (gs.map V.int) ∧ gs.length ≤ 100 ∧ Sm one ∧ Sm two ∧
  (netOk net = true → okP one = true → okP two = true → ∀ H', Ex H H' → Q (.bl (!decide (two ∈ keysB (bfs (net.filter (opn gs)) one 8)))) H') ∧
  (netOk net = false → ∀ d, H d = none → E (.ref Cn) (some d) (upd H d (.xd [("called", .str "BadNet")]))) ∧
  (netOk net = true → (okP one && okP two) = false → ∀ d, H d = none → E (.ref Cp) (some d) (upd H d (.xd [("called", .str "BadPlace")])))
theorem sc_p_barred : FnScope ["net", "gates", "one", "other"] ["net", "gates", "one", "other"] (defScope s_p_barred) :=
  ⟨rfl, rfl, rfl, by decide +kernel, rfl, by decide +kernel, by decide +kernel⟩
theorem ok_p_barred (T : Tx P K mg w) : FnOk P w K mg base (CX P w) 5 T.f_p_barred T.d_p_barred ["net", "gates", "one", "other"] (spBar K T.C_BadNet T.C_BadPlace) := by
  refine T.F_p_barred.okX sc_p_barred (fun vs H Q E h => ?_) (fun cdv A outer s H vs Q E hr h => ?_)
  · obtain ⟨l, g, net, gs, one, two, rfl, _⟩ := h
    rfl
  · obtain ⟨l, g, net, gs, one, two, rfl, hn, sm, hz, hg, hgz, s1, s2, k1, k2, k3⟩ := h
    refine ⟨_, (pss_one (ps_ret (pe_cmpR op_isN1 (pe_call (ok_p_way_round T) (hr.mono (by decide)) rfl T.g_p_way_round T.F_p_way_round.kp T.b_p_way_round .nil (passes_up (takes_of rfl rfl rfl rfl) fun _ _ _ _ h => h) (pa_cons (pv 0) (pa_cons (pv 1) (pa_cons (pv 2) (pa_cons (pv 3) pa_nil))))) pe_non (nomark _)))), ?_⟩
    refine at_start (ρ' := [some _, some _, some _, some _]) rfl ?_
    walk_at "z0"
    walk_at "z"
    refine ⟨l, g, net, gs, one, two, rfl, hn, sm, hz, hg, hgz, s1, s2, fun o1 o2 o3 v H' e hw _ => ?_, k2, k3⟩
    have k := k1 o1 o2 o3 H' e
    rcases hw with ⟨hno, rfl⟩ | ⟨d, q, pl, hm, rfl, _⟩
    · walk_at "z"
      rw [decide_eq_false hno] at k
      exact k
    · walk_at "z"
      have : two ∈ keysB (bfs (net.filter (opn gs)) one 8) := List.mem_map.mpr ⟨(two, d), hm, rfl⟩
      rw [decide_eq_true this] at k
      exact k
def roadsF (net : List Road) (p : Int) : List (Int × Option Int) := net.filterMap fun r => (endOf r p).map fun e => (e, r.g)
def PairR (K : PySem.W.Frag) (H : Hp) (v : V) (x : Int × Option Int) : Prop := ∃ q, v = .ref q ∧ SqT K H q [.int x.1, optV x.2]
def spRoads (K : PySem.W.Frag) : Sp := fun vs H Q _ => ∃ (l : Addr) (net : List Road) (p : Int), vs = [.ref l, .int p] ∧ NetAt K H l net ∧ net.length ≤ 1000 ∧ ∀ D acc H', H D = none → Ex H H' → H' D = some (.lst acc) → All2 (PairR K H') acc (roadsF net p) → Q (.ref D) H'
theorem sc_l_roads : FnScope ["_law_net_here", "_law_place_here", "_law_found", "_law_one", "_law_other", "_law_gate_here"] ["_law_net_here", "_law_place_here"] (defScope s_l_roads) :=
  ⟨rfl, rfl, rfl, by decide +kernel, rfl, by decide +kernel, by decide +kernel⟩
theorem ok_l_roads (T : Tx P K mg w) : FnOk P w K mg base CX0 1 T.f_l_roads T.d_l_roads ["_law_net_here", "_law_place_here"] (spRoads K) := by
  refine T.F_l_roads.ok sc_l_roads (fun vs H Q E h => ?_) (fun cdv A outer s H vs Q E hr h => ?_)
  · obtain ⟨l, net, p, rfl, _⟩ := h
    rfl
  · obtain ⟨l, net, p, rfl, ⟨vs, hl, hr2⟩, hz, k⟩ := h
    have hlen := hr2.len
    refine ⟨_, (pss_cons (ps_set (i := 2) sc_l_roads.nd rfl (Or.inl rfl) (pe_lst pa_nil)) (pss_cons (ps_for PassesOwn.never rfl (pi_list (pv 0)) (pg_tup (by rfl) (pgs_cons (pg_name (i := 3) sc_l_roads.nd rfl (Or.inl rfl)) (pgs_cons (pg_name (i := 4) sc_l_roads.nd rfl (Or.inl rfl)) (pgs_cons (pg_name (i := 5) sc_l_roads.nd rfl (Or.inl rfl)) pgs_nil)))) (pss_one (ps_if (pt_cmpR op_eq (pv 1) (pv 3) (nomark _)) (pss_one (ps_expr (pe_bm PySem.F.plainAttrs_list PySem.F.slot_list_append PySem.F.type_list_append mt_append (pv 2) (pa_cons (pe_tup (pa_cons (pv 4) (pa_cons (pv 5) pa_nil))) pa_nil)))) (pss_one (ps_if (pt_cmpR op_eq (pv 1) (pv 4) (nomark _)) (pss_one (ps_expr (pe_bm PySem.F.plainAttrs_list PySem.F.slot_list_append PySem.F.type_list_append mt_append (pv 2) (pa_cons (pe_tup (pa_cons (pv 3) (pa_cons (pv 5) pa_nil))) pa_nil)))) pss_nil))))) (pss_one (ps_ret (pv 2))))), ?_⟩
    refine at_start (ρ' := [some _, some _, none, none, none, none]) rfl ?_
    walk_at "z0"
    walk_at "z"
    rename_i D H1 nD e1 hD
    refine l_list vs (fun i σ H' => ∃ (v3 v4 v5 : Option V) (acc : List V), σ = [some (.ref l), some (.int p), some (.ref D), v3, v4, v5] ∧ Ex H H' ∧ H' D = some (.lst acc) ∧ acc.length ≤ i ∧ All2 (PairR K H') acc (roadsF (net.take i) p)) ⟨_, _, _, _, rfl, e1, hD, Nat.le_refl _, .nil⟩ (fun i σ H' hi h => ?_) (fun i x σ H2 hi h => ?_) (fun σ H2 h => ?_)
    · obtain ⟨_, _, _, _, rfl, e, _⟩ := h
      exact e.sqL hl
    · obtain ⟨v3, v4, v5, acc, rfl, e2, hD2, hal, ra⟩ := h
      obtain ⟨r, hr1, q, rfl, hq⟩ := hr2.get hi
      have hi2 : i < vs.length := (List.getElem?_eq_some_iff.mp hi).1
      have hq2 := e2.sqT hq
      have nx : roadsF (net.take (i + 1)) p = roadsF (net.take i) p ++ (match endOf r p with | none => [] | some e => [(e, r.g)]) := by
        unfold roadsF
        rw [List.take_succ, hr1, List.filterMap_append]
        cases he : endOf r p <;> simp [List.filterMap_cons, he]
      obtain ⟨a0, b0, g0⟩ := r
      unfold Road.v at hq2
      dsimp only at hq2 nx
      refine s_gTup hq2 rfl ?_
      walk_at "z"
      have put : ∀ (e : Int), endOf ⟨a0, b0, g0⟩ p = some e → ∀ t H3 H4, H2 t = none → Ex H2 H3 → H3 t = some (.tup [.int e, optV g0]) → Fr D H3 H4 → H4 D = some (.lst (acc ++ [.ref t])) →
          Ex H H4 ∧ All2 (PairR K H4) (acc ++ [.ref t]) (roadsF (net.take (i + 1)) p) := by
        intro e he t H3 H4 nt e3 ht f4 hD4
        have t4 := tk_lst (K := K) f4 (e3 _ _ hD2)
        refine ⟨(e2.trans e3).fr2 nD f4, ?_⟩
        rw [nx, he]
        exact (ra.mono fun _ _ ⟨q, g1, g2⟩ => ⟨q, g1, t4 _ _ (e3.sqT g2)⟩).snoc ⟨t, rfl, t4 _ _ (SqT.of ht)⟩
      unfold endOf at put nx
      dsimp only at put nx
      refine ite_dec (fun h1 => ?_) (fun h1 => ?_)
      · rw [if_pos h1.symm] at put
        walk_at "z"
        rename_i t H3 nt e3 ht
        refine s_app (e3 _ _ hD2) (szl (by omega)) fun H4 f4 hD4 => ?_
        obtain ⟨p1, p2⟩ := put b0 rfl t H3 H4 nt e3 ht f4 hD4
        exact ⟨_, _, _, _, rfl, p1, hD4, by rw [List.length_append]; show acc.length + 1 ≤ i + 1; omega, p2⟩
      · rw [if_neg (fun z => h1 z.symm)] at put nx
        walk_at "z"
        refine ite_dec (fun h2 => ?_) (fun h2 => ?_)
        · rw [if_pos h2.symm] at put
          walk_at "z"
          rename_i t H3 nt e3 ht
          refine s_app (e3 _ _ hD2) (szl (by omega)) fun H4 f4 hD4 => ?_
          obtain ⟨p1, p2⟩ := put a0 rfl t H3 H4 nt e3 ht f4 hD4
          exact ⟨_, _, _, _, rfl, p1, hD4, by rw [List.length_append]; show acc.length + 1 ≤ i + 1; omega, p2⟩
        · rw [if_neg (fun z => h2 z.symm)] at nx
          walk_at "z"
          refine ⟨_, _, _, acc, rfl, e2, hD2, by omega, ?_⟩
          rw [nx]
          show All2 (PairR K H2) acc (_ ++ [])
          rw [List.append_nil]
          exact ra
    · obtain ⟨v3, v4, v5, acc, rfl, e2, hD2, hal, ra⟩ := h
      rw [hlen, List.take_length] at ra
      walk_at "z"
      exact k D acc H2 nD e2 hD2 ra
/-- whether it is an int: where it is one -/
def spNumL : Sp := fun vs H Q _ => ∃ n : Int, vs = [.int n] ∧ Q (.bl true) H
theorem sc_l_num : FnScope ["_law_found"] ["_law_found"] (defScope s_l_num) :=
  ⟨rfl, rfl, rfl, by decide +kernel, rfl, by decide +kernel, by decide +kernel⟩
theorem ok_l_num (T : Tx P K mg w) : FnOk P w K mg base CX0 1 T.f_l_num T.d_l_num ["_law_found"] spNumL := by
  refine T.F_l_num.ok sc_l_num (fun vs H Q E h => ?_) (fun cdv A outer s H vs Q E hr h => ?_)
  · obtain ⟨n, rfl, _⟩ := h
    rfl
  · obtain ⟨n, rfl, k⟩ := h
    refine ⟨_, (pss_one (ps_ret (pe_and (pe_callB (r := rIsi K) call_isi (by rfl) T.z_isinstance (by decide +kernel) (pa_cons (pv 0) (pa_cons (pe_bltn (v := .ty "int") rfl T.z_int (by decide +kernel) rfl) pa_nil))) (pe_one (pe_not (pe_callB (r := rIsi K) call_isi (by rfl) T.z_isinstance (by decide +kernel) (pa_cons (pv 0) (pa_cons (pe_bltn (v := .ty "bool") rfl T.z_bool (by decide +kernel) rfl) pa_nil)))))))), ?_⟩
    refine at_start (ρ' := [some _]) rfl ?_
    walk_at "z0"
    walk_at "z"
    exact k
def spNetOkL (K : PySem.W.Frag) : Sp := fun vs H Q _ => ∃ (l : Addr) (net : List Road), vs = [.ref l] ∧ NetAt K H l net ∧ net.length ≤ 1000 ∧ Q (.bl (netOk net)) H
theorem sc_l_net_ok : FnScope ["_law_net_here", "_law_one", "_law_other", "_law_gate_here"] ["_law_net_here"] (defScope s_l_net_ok) :=
  ⟨rfl, rfl, rfl, by decide +kernel, rfl, by decide +kernel, by decide +kernel⟩
theorem ok_l_net_ok (T : Tx P K mg w) : FnOk P w K mg base CX0 1 T.f_l_net_ok T.d_l_net_ok ["_law_net_here"] (spNetOkL K) := by
  refine T.F_l_net_ok.ok sc_l_net_ok (fun vs H Q E h => ?_) (fun cdv A outer s H vs Q E hr h => ?_)
  · obtain ⟨l, net, rfl, _⟩ := h
    rfl
  · obtain ⟨l, net, rfl, ⟨vs, hl, hr2⟩, hz, k⟩ := h
    have hlen := hr2.len
    refine ⟨_, (pss_cons (ps_if (pt_cmpR op_gt (pe_callB (r := Z.rLen K) cz_len (by rfl) T.z_len PySem.boot_len (pa_cons (pv 0) pa_nil)) pe_int (nomark _)) (pss_one (ps_ret pe_bl)) pss_nil) (pss_cons (ps_for PassesOwn.never rfl (pi_list (pv 0)) (pg_tup (by rfl) (pgs_cons (pg_name (i := 1) sc_l_net_ok.nd rfl (Or.inl rfl)) (pgs_cons (pg_name (i := 2) sc_l_net_ok.nd rfl (Or.inl rfl)) (pgs_cons (pg_name (i := 3) sc_l_net_ok.nd rfl (Or.inl rfl)) pgs_nil)))) (pss_one (ps_if (PW.pt (pw_or (pt_not (pt_chain op_le op_le pe_int (pv 1) pe_int)) (pw_or (pt_not (pt_chain op_le op_le pe_int (pv 2) pe_int)) (pw_or1 (PW.pt (pw_and (pt_cmpR op_notN1 (pv 3) pe_non (nomark _)) (pw_and1 (pt_not (pt_chain op_le op_le pe_int (pv 3) pe_int))))))))) (pss_one (ps_ret pe_bl)) pss_nil))) (pss_one (ps_ret pe_bl)))), ?_⟩
    refine at_start (ρ' := [some _, none, none, none]) rfl ?_
    walk_at "z0"
    walk_at "z"
    refine ite_dec (fun h1 => ?_) (fun h1 => ?_)
    · walk_at "z"
      rw [show netOk net = false from by
        unfold netOk
        rw [decide_eq_false (by omega : ¬ net.length ≤ 12)]
        rfl] at k
      exact k
    walk_at "z"
    have hle : net.length ≤ 12 := by omega
    refine l_list vs (fun i σ H' => ∃ v1 v2 v3, σ = [some (.ref l), v1, v2, v3] ∧ H' = H ∧ (net.take i).all Road.ok = true) ⟨_, _, _, rfl, rfl, rfl⟩ (fun i σ H' hi h => ?_) (fun i x σ H2 hi h => ?_) (fun σ H2 h => ?_)
    · obtain ⟨_, _, _, rfl, rfl, _⟩ := h
      exact hl
    · obtain ⟨v1, v2, v3, rfl, rfl, hall⟩ := h
      obtain ⟨r, hr1, p, rfl, hp⟩ := hr2.get hi
      have nx : (net.take (i + 1)).all Road.ok = r.ok := by
        rw [List.take_succ, hr1, List.all_append, hall]
        simp
      have bad : r.ok = false → Q (.bl false) H2 := fun z => by
        rw [show netOk net = false from by
          unfold netOk
          rw [Bool.and_eq_false_iff]
          exact .inr (List.all_eq_false.mpr ⟨r, List.mem_of_getElem? hr1, by rw [z]; decide⟩)] at k
        exact k
      obtain ⟨ra, rb, rg⟩ := r
      unfold Road.v at hp
      unfold Road.ok at nx bad
      dsimp only at hp nx bad
      refine s_gTup hp rfl ?_
      walk_at "z"
      cases hoa : okP ra with
      | false =>
        have hno : ¬ (0 ≤ ra ∧ ra ≤ 7) := fun z => by
          rw [okP_iff.mpr z] at hoa
          cases hoa
        by_cases h0 : 0 ≤ ra
        · refine ite_pos h0 ?_
          walk_at "z"
          refine ite_npos (fun z => hno ⟨h0, z⟩) ?_
          walk_at "z"
          exact bad (by rw [hoa]; simp)
        · refine ite_neg h0 ?_
          walk_at "z"
          exact bad (by rw [hoa]; simp)
      | true =>
        obtain ⟨g0, g7⟩ := okP_iff.mp hoa
        refine ite_pos g0 ?_
        walk_at "z"
        refine ite_nneg g7 ?_
        walk_at "z"
        cases hob : okP rb with
        | false =>
          have hno : ¬ (0 ≤ rb ∧ rb ≤ 7) := fun z => by
            rw [okP_iff.mpr z] at hob
            cases hob
          by_cases h0 : 0 ≤ rb
          · refine ite_pos h0 ?_
            walk_at "z"
            refine ite_npos (fun z => hno ⟨h0, z⟩) ?_
            walk_at "z"
            exact bad (by rw [hob]; simp)
          · refine ite_neg h0 ?_
            walk_at "z"
            exact bad (by rw [hob]; simp)
        | true =>
          obtain ⟨g0, g7⟩ := okP_iff.mp hob
          refine ite_pos g0 ?_
          walk_at "z"
          refine ite_nneg g7 ?_
          walk_at "z"
          rw [hoa, hob] at nx bad
          cases rg with
          | none =>
            dsimp only [optV]
            walk_at "z"
            exact ⟨_, _, _, rfl, rfl, nx⟩
          | some g =>
            dsimp only at nx bad
            dsimp only [optV]
            walk_at "z"
            refine ite_npos (fun z => by cases z) ?_
            walk_at "z"
            cases hog : okP g with
            | false =>
              have hno : ¬ (0 ≤ g ∧ g ≤ 7) := fun z => by
                rw [okP_iff.mpr z] at hog
                cases hog
              by_cases h0 : 0 ≤ g
              · refine ite_pos h0 ?_
                walk_at "z"
                refine ite_npos (fun z => hno ⟨h0, z⟩) ?_
                walk_at "z"
                exact bad (by rw [hog]; rfl)
              · refine ite_neg h0 ?_
                walk_at "z"
                exact bad (by rw [hog]; rfl)
            | true =>
              obtain ⟨g0, g7⟩ := okP_iff.mp hog
              refine ite_pos g0 ?_
              walk_at "z"
              refine ite_nneg g7 ?_
              walk_at "z"
              rw [hog] at nx
              exact ⟨_, _, _, rfl, rfl, nx⟩
    · obtain ⟨_, _, _, rfl, rfl, hall⟩ := h
      rw [hlen, List.take_length] at hall
      walk_at "z"
      rw [show netOk net = true from by
        unfold netOk
        rw [hall, decide_eq_true hle]
        rfl] at k
      exact k

/-! the law's nets -/
theorem ok_sm {n : Int} (h : R 0 7 n) : Sm n := ⟨by have := h.1; omega, by have := h.2; omega⟩
def spNetL (K : PySem.W.Frag) : Sp := fun vs H Q _ => ∃ b c : Addr, vs = [.ref b] ∧ Bag H b c ∧ ∀ D acc net H', H D = none → H' D = some (.lst acc) → All2 (RoadAt K H') acc net → net.length ≤ 12 → (∀ r ∈ net, r.sm) → Bag H' b c → Fr b H H' → Q (.ref D) H'
theorem sqT_pull9 {H H' : Hp} {b c a : Addr} {xs : List V} (f : Fr b H H') (B : Bag H b c) (h : SqT K H a xs) : SqT K H' a xs := by
  obtain ⟨ys, hb⟩ := B.getb
  exact tk_lst f hb _ _ h
theorem sc_l_net : FnScope ["_law_bag_here", "_law_places", "_law_found", "_law_turn", "_law_one", "_law_gate_here"] ["_law_bag_here"] (defScope s_l_net) :=
  ⟨rfl, rfl, rfl, by decide +kernel, rfl, by decide +kernel, by decide +kernel⟩
theorem ok_l_net (T : Tx P K mg w) : FnOk P w K mg base CX0 3 T.f_l_net T.d_l_net ["_law_bag_here"] (spNetL K) := by
  refine T.F_l_net.ok sc_l_net (fun vs H Q E h => ?_) (fun cdv A outer s H vs Q E hr h => ?_)
  · obtain ⟨b, c, rfl, _⟩ := h
    rfl
  · obtain ⟨b, c, rfl, B, k⟩ := h
    refine ⟨_, (pss_cons (ps_set (i := 1) sc_l_net.nd rfl (Or.inl rfl) (pe_op op_add pe_int (pe_call (ok_l_pull T) (hr.mono (by decide)) rfl T.g_l_pull T.F_l_pull.kp T.b_l_pull .nil pass0 (pa_cons (pv 0) (pa_cons pe_int pa_nil))))) (pss_cons (ps_set (i := 2) sc_l_net.nd rfl (Or.inl rfl) (pe_lst pa_nil)) (pss_cons (ps_for PassesOwn.never rfl (pi_range1 (by rfl) T.z_range (pa_cons (pe_call (ok_l_pull T) (hr.mono (by decide)) rfl T.g_l_pull T.F_l_pull.kp T.b_l_pull .nil pass0 (pa_cons (pv 0) (pa_cons pe_int pa_nil))) pa_nil)) (pg_name (i := 3) sc_l_net.nd rfl (Or.inl rfl)) (pss_cons (ps_set (i := 4) sc_l_net.nd rfl (Or.inl rfl) (pe_call (ok_l_pull T) (hr.mono (by decide)) rfl T.g_l_pull T.F_l_pull.kp T.b_l_pull .nil pass0 (pa_cons (pv 0) (pa_cons (pv 1) pa_nil)))) (pss_cons (ps_set (i := 5) sc_l_net.nd rfl (Or.inl rfl) (pe_ix (r := rIxL K) ix_list (pe_lst (pa_cons pe_non (pa_cons (pe_call (ok_l_gate T) (hr.mono (by decide)) rfl T.g_l_gate T.F_l_gate.kp T.b_l_gate .nil pass0 (pa_cons (pv 0) pa_nil)) (pa_cons (pe_call (ok_l_pull T) (hr.mono (by decide)) rfl T.g_l_pull T.F_l_pull.kp T.b_l_pull .nil pass0 (pa_cons (pv 0) (pa_cons pe_int pa_nil))) (pa_cons (pe_call (ok_l_gate T) (hr.mono (by decide)) rfl T.g_l_gate T.F_l_gate.kp T.b_l_gate .nil pass0 (pa_cons (pv 0) pa_nil)) pa_nil))))) (pe_call (ok_l_pull T) (hr.mono (by decide)) rfl T.g_l_pull T.F_l_pull.kp T.b_l_pull .nil pass0 (pa_cons (pv 0) (pa_cons pe_int pa_nil))) (fun _ _ => rfl))) (pss_one (ps_expr (pe_bm PySem.F.plainAttrs_list PySem.F.slot_list_append PySem.F.type_list_append mt_append (pv 2) (pa_cons (pe_tup (pa_cons (pv 4) (pa_cons (pe_ix (r := rIxL K) ix_list (pe_lst (pa_cons (pe_op op_mod (pe_op op_add (pv 4) pe_int) (pv 1)) (pa_cons (pe_call (ok_l_pull T) (hr.mono (by decide)) rfl T.g_l_pull T.F_l_pull.kp T.b_l_pull .nil pass0 (pa_cons (pv 0) (pa_cons (pv 1) pa_nil))) pa_nil))) (pe_call (ok_l_pull T) (hr.mono (by decide)) rfl T.g_l_pull T.F_l_pull.kp T.b_l_pull .nil pass0 (pa_cons (pv 0) (pa_cons pe_int pa_nil))) (fun _ _ => rfl)) (pa_cons (pv 5) pa_nil)))) pa_nil))))))) (pss_one (ps_ret (pv 2)))))), ?_⟩
    refine at_start (ρ' := [some _, none, none, none, none, none]) rfl ?_
    walk_at "z0"
    walk_at "z"
    rename_i z H1 z0 z1 B1 f1 D H2 nD e2 hD n H3 n0 n1 B3 f3
    have hDb : D ≠ b := B1.neb nD
    have hDc : D ≠ c := B1.nec nD
    have nDH : H D = none := by
      cases hx : H D with
      | none => rfl
      | some o =>
        have := f1 _ _ hDb hx
        rw [nD] at this
        cases this
    have nDH3 := f3 _ _ hDb hD
    refine l_range ⟨by omega, by omega⟩ (fun i σ H' => ∃ (v3 v4 v5 : Option V) (acc : List V) (net : List Road), σ = [some (.ref b), some (.int (2 + z)), some (.ref D), v3, v4, v5] ∧ Bag H' b c ∧ Fr b H H' ∧ H' D = some (.lst acc) ∧ acc.length ≤ i ∧ net.length ≤ i ∧ All2 (RoadAt K H') acc net ∧ ∀ r ∈ net, r.sm) ⟨_, _, _, [], [], rfl, B3, (f1.trans (e2.fr b)).trans f3, nDH3, Nat.le_refl _, Nat.le_refl _, .nil, fun r hr => by cases hr⟩ (fun i σ H4 hi h => ?_) (fun σ H4 h => ?_)
    · clear B3 f3 nDH3 hD f1 B1 e2
      obtain ⟨v3, v4, v5, acc, net, rfl, B4, f4, hD4, h1, h2, ra, sm⟩ := h
      walk_at "z"
      rename_i y H5 y0 y1 B5 f5 g1 H6 g10 g11 B6 f6 g2 H7 g20 g21 B7 f7 g3 H8 g30 g31 B8 f8 lp H9 nlp e9 hlp y2 H10 y20 y21 B10 f10
      refine s_ixP (fun v => ∃ g : Option Int, v = optV g ∧ ∀ x, g = some x → R 0 7 x) (SqL.of (f10 _ _ (B8.neb nlp) hlp)) ⟨y20, y21⟩ (fun v hv => ?_) fun v ⟨g, ev, hg⟩ => ?_
      · simp only [List.mem_cons, List.not_mem_nil, or_false] at hv
        rcases hv with rfl | rfl | rfl | rfl
        · exact ⟨none, rfl, fun x h => by cases h⟩
        · exact ⟨some g1, rfl, fun x h => by cases h; exact ⟨by omega, by omega⟩⟩
        · exact ⟨some g2, rfl, fun x h => by cases h; exact ⟨by omega, by omega⟩⟩
        · exact ⟨some g3, rfl, fun x h => by cases h; exact ⟨by omega, by omega⟩⟩
      subst ev
      have m0 := Int.emod_nonneg (y + 1) (by omega : (2 + z) ≠ 0)
      have m1 := Int.emod_lt_of_pos (y + 1) (by omega : 0 < 2 + z)
      walk_at "z"
      rename_i y3 H11 y30 y31 B11 f11 lp2 H12 n12 e12 hlp2 y4 H13 y40 y41 B13 f13
      refine s_ixP (fun v => ∃ n : Int, v = .int n ∧ R 0 7 n) (SqL.of (f13 _ _ (B11.neb n12) hlp2)) ⟨y40, y41⟩ (fun v hv => ?_) fun v ⟨o, ev, ho⟩ => ?_
      · simp only [List.mem_cons, List.not_mem_nil, or_false] at hv
        rcases hv with rfl | rfl <;> exact ⟨_, rfl, by omega, by omega⟩
      subst ev
      have F : Fr b H4 H13 := (((((((f5.trans f6).trans f7).trans f8).trans (e9.fr b)).trans f10).trans f11).trans (e12.fr b)).trans f13
      have up : ∀ {a : Addr} {xs : List V}, SqT K H4 a xs → SqT K H13 a xs := by
        intro a xs q
        have q := sqT_pull9 f8 B7 (sqT_pull9 f7 B6 (sqT_pull9 f6 B5 (sqT_pull9 f5 B4 q)))
        exact sqT_pull9 f13 (B11.ext e12) (e12.sqT (sqT_pull9 f11 B10 (sqT_pull9 f10 (B8.ext e9) (e9.sqT q))))
      walk_at "z"
      rename_i t H14 nt e14 ht
      have hD14 := e14 _ _ (F _ _ hDb hD4)
      refine s_app hD14 (szl (by omega)) fun H15 f15 hD15 => ?_
      have t15 := tk_lst (K := K) f15 hD14
      have nDb2 : b ≠ D := Ne.symm hDb
      have hyz : R 0 7 y := ⟨by omega, by omega⟩
      refine ⟨_, _, _, acc ++ [.ref t], net ++ [⟨y, o, g⟩], rfl, ?_, ?_, hD15, by rw [List.length_append]; show acc.length + 1 ≤ i + 1; omega, by rw [List.length_append]; show net.length + 1 ≤ i + 1; omega, ?_, ?_⟩
      · exact (B13.ext e14).frs hDb hDc f15
      · exact fun a o na ha => f15 a o (ne_of_none ha nDH) (((f4.trans F).trans (e14.fr b)) a o na ha)
      · exact (ra.mono fun _ _ ⟨q, q1, q2⟩ => ⟨q, q1, t15 _ _ (e14.sqT (up q2))⟩).snoc ⟨t, rfl, t15 _ _ (SqT.of ht)⟩
      · intro r hr
        rcases List.mem_append.mp hr with hr | hr
        · exact sm r hr
        · rw [List.mem_singleton] at hr
          subst hr
          exact ⟨ok_sm hyz, ok_sm ho, fun x hx => ok_sm (hg x hx)⟩
    · obtain ⟨v3, v4, v5, acc, net, rfl, B4, f4, hD4, h1, h2, ra, sm⟩ := h
      walk_at "z"
      exact k D acc net H4 nDH hD4 ra (by omega) sm B4 f4
def spPlaceB : Sp := spInt (-(2 ^ 70)) (2 ^ 70)
theorem sc_l_place : FnScope ["_law_bag_here"] ["_law_bag_here"] (defScope s_l_place) :=
  ⟨rfl, rfl, rfl, by decide +kernel, rfl, by decide +kernel, by decide +kernel⟩
theorem ok_l_place (T : Tx P K mg w) : FnOk P w K mg base CX0 3 T.f_l_place T.d_l_place ["_law_bag_here"] (spInt (-(2 ^ 70)) (2 ^ 70)) := by
  refine T.F_l_place.ok sc_l_place (fun vs H Q E h => ?_) (fun cdv A outer s H vs Q E hr h => ?_)
  · obtain ⟨b, c, rfl, _⟩ := h
    rfl
  · obtain ⟨b, c, rfl, B, k⟩ := h
    refine ⟨_, (pss_one (ps_ret (pe_ifExp (pt_cmpR op_gt (pe_call (ok_l_pull T) (hr.mono (by decide)) rfl T.g_l_pull T.F_l_pull.kp T.b_l_pull .nil pass0 (pa_cons (pv 0) (pa_cons pe_int pa_nil))) pe_int (nomark _)) (pe_call (ok_l_pull T) (hr.mono (by decide)) rfl T.g_l_pull T.F_l_pull.kp T.b_l_pull .nil pass0 (pa_cons (pv 0) (pa_cons pe_int pa_nil))) (pe_ix (r := rIxL K) ix_list (pe_lst (pa_cons (pe_un un_neg pe_int) (pa_cons pe_int (pa_cons pe_int (pa_cons (pe_call (ok_l_far T) (hr.mono (by decide)) rfl T.g_l_far T.F_l_far.kp T.b_l_far .nil pass0 (pa_cons (pv 0) pa_nil)) pa_nil))))) (pe_call (ok_l_pull T) (hr.mono (by decide)) rfl T.g_l_pull T.F_l_pull.kp T.b_l_pull .nil pass0 (pa_cons (pv 0) (pa_cons pe_int pa_nil))) (fun _ _ => rfl))))), ?_⟩
    refine at_start (ρ' := [some _]) rfl ?_
    walk_at "z0"
    walk_at "z"
    rename_i z H1 z0 z1 B1 f1
    refine ite_dec (fun h1 => ?_) (fun h1 => ?_)
    · walk_at "z"
      exact k _ _ (by omega) (by omega) (by walk_at "zbag") (by walk_at "zfr")
    · walk_at "z"
      refine s_ixP (fun v => ∃ n : Int, v = .int n ∧ -(2 ^ 70) ≤ n ∧ n ≤ 2 ^ 70) (by walk_at "zsq") ⟨by assumption, by assumption⟩ (fun v hv => ?_) fun v ⟨n, e, n0, n1⟩ => ?_
      · simp only [List.mem_cons, List.not_mem_nil, or_false] at hv
        rcases hv with rfl | rfl | rfl | rfl <;> exact ⟨_, rfl, by omega, by omega⟩
      subst e
      exact k _ _ n0 n1 (by walk_at "zbag") (by walk_at "zfr")
theorem cut_take9 {xs : List V} {n : Nat} : cutV xs none (some (n : Int)) = xs.take n := by
  unfold cutV
  rw [HT.sIx_none, HT.sIx_nat, List.drop_zero, Nat.sub_zero]
  by_cases h : n ≤ xs.length
  · rw [Nat.min_eq_left h]
  · rw [Nat.min_eq_right (by omega), List.take_of_length_le (Nat.le_refl _), List.take_of_length_le (by omega)]
theorem cut_drop9 {xs : List V} {n : Nat} : cutV xs (some (n : Int)) none = xs.drop n := by
  unfold cutV
  rw [HT.sIx_none, HT.sIx_nat]
  by_cases h : n ≤ xs.length
  · rw [Nat.min_eq_left h]
    exact List.take_of_length_le (by rw [List.length_drop]; exact Nat.le_refl _)
  · rw [Nat.min_eq_right (by omega), List.drop_eq_nil_of_le (by omega : xs.length ≤ n), Nat.sub_self, List.take_zero]
theorem s_cat9 {H : Hp} {Q : VK} {a b : Addr} {xs ys : List V} (h1 : H a = some (.lst xs)) (h2 : H b = some (.lst ys)) (hz : xs.length + ys.length ≤ 90000) (k : ∀ r H', H r = none → Ex H H' → H' r = some (.lst (xs ++ ys)) → Q (.ref r) H') : rCat (.ref a) (.ref b) H Q :=
  ⟨a, b, xs, ys, rfl, rfl, h1, h2, sz (by omega), fun p hp => k p _ hp (Ex.new hp) upd_same⟩
theorem all2_rep {α β : Type} {R : α → β → Prop} {as : List α} {bs : List β} (h : All2 R as bs) : ∀ n, All2 R (List.replicate n as).flatten (List.replicate n bs).flatten
  | 0 => .nil
  | n + 1 => by
    rw [List.replicate_succ, List.replicate_succ, List.flatten_cons, List.flatten_cons]
    exact h.app (all2_rep h n)
theorem all2_take {α β : Type} {R : α → β → Prop} {as : List α} {bs : List β} (h : All2 R as bs) : ∀ n, All2 R (as.take n) (bs.take n) := by
  induction h with
  | nil =>
    intro n
    rw [List.take_nil, List.take_nil]
    exact .nil
  | cons h r ih =>
    intro n
    cases n with
    | zero => exact .nil
    | succ n => exact .cons h (ih n)
theorem all2_drop {α β : Type} {R : α → β → Prop} {as : List α} {bs : List β} (h : All2 R as bs) : ∀ n, All2 R (as.drop n) (bs.drop n) := by
  induction h with
  | nil =>
    intro n
    rw [List.drop_nil, List.drop_nil]
    exact .nil
  | cons h r ih =>
    intro n
    cases n with
    | zero => exact .cons h r
    | succ n => exact ih n
theorem sm_lit {a b : Int} {g : Option Int} (h1 : -1000 ≤ a ∧ a ≤ 1000) (h2 : -1000 ≤ b ∧ b ≤ 1000) (h3 : ∀ x, g = some x → -1000 ≤ x ∧ x ≤ 1000) : Road.sm ⟨a, b, g⟩ := ⟨⟨by show -(2 ^ 80) ≤ a; omega, by show a ≤ 2 ^ 80; omega⟩, ⟨by show -(2 ^ 80) ≤ b; omega, by show b ≤ 2 ^ 80; omega⟩, fun x hx => ⟨by have := h3 x hx; omega, by have := h3 x hx; omega⟩⟩
theorem none_fr {b a : Addr} {H H' : Hp} (f : Fr b H H') (n : a ≠ b) (h : H' a = none) : H a = none := by
  cases hx : H a with
  | none => rfl
  | some o =>
    have := f _ _ n hx
    rw [h] at this
    cases this
/-- a net that is none, or one that is -/
def spBentN (K : PySem.W.Frag) : Sp := fun vs H Q _ => ∃ (b c l : Addr) (net : List Road), vs = [.ref b, .ref l] ∧ Bag H b c ∧ (∃ us, H l = some (.lst us) ∧ All2 (RoadAt K H) us net) ∧ net.length ≤ 12 ∧ (∀ r ∈ net, r.sm) ∧ l ≠ b ∧
  ∀ D acc net' H', H D = none → H' D = some (.lst acc) → All2 (RoadAt K H') acc net' → net'.length ≤ 1000 → (∀ r ∈ net', r.sm) → Bag H' b c → Fr b H H' → Q (.ref D) H'
theorem sc_l_bent_net : FnScope ["_law_bag_here", "_law_net_here", "_law_way", "_law_at", "_law_bad"] ["_law_bag_here", "_law_net_here"] (defScope s_l_bent_net) :=
  ⟨rfl, rfl, rfl, by decide +kernel, rfl, by decide +kernel, by decide +kernel⟩
theorem ok_l_bent_net (T : Tx P K mg w) : FnOk P w K mg base CX0 3 T.f_l_bent_net T.d_l_bent_net ["_law_bag_here", "_law_net_here"] (spBentN K) := by
  refine T.F_l_bent_net.ok sc_l_bent_net (fun vs H Q E h => ?_) (fun cdv A outer s H vs Q E hr h => ?_)
  · obtain ⟨b, c, l, net, rfl, _⟩ := h
    rfl
  · obtain ⟨b, c, l, net, rfl, B, ⟨vs, hl, hr2⟩, hz, sm, hlb, k⟩ := h
    have hlen := hr2.len
    refine ⟨_, (pss_cons (ps_set (i := 2) sc_l_bent_net.nd rfl (Or.inl rfl) (pe_call (ok_l_pull T) (hr.mono (by decide)) rfl T.g_l_pull T.F_l_pull.kp T.b_l_pull .nil pass0 (pa_cons (pv 0) (pa_cons pe_int pa_nil)))) (pss_cons (ps_if (pt_cmpR op_eq (pv 2) pe_int (nomark _)) (pss_one (ps_ret (pe_op op_rep (pe_op op_cat (pv 1) (pe_lst (pa_cons (pe_tup (pa_cons pe_int (pa_cons pe_int (pa_cons pe_int pa_nil)))) pa_nil))) pe_int))) pss_nil) (pss_cons (ps_set (i := 3) sc_l_bent_net.nd rfl (Or.inl rfl) (pe_call (ok_l_pull T) (hr.mono (by decide)) rfl T.g_l_pull T.F_l_pull.kp T.b_l_pull .nil pass0 (pa_cons (pv 0) (pa_cons (pe_op op_add (pe_callB (r := Z.rLen K) cz_len (by rfl) T.z_len PySem.boot_len (pa_cons (pv 1) pa_nil)) pe_int) pa_nil)))) (pss_cons (ps_set (i := 4) sc_l_bent_net.nd rfl (Or.inl rfl) (pe_ix (r := rIxL K) ix_list (pe_lst (pa_cons (pe_tup (pa_cons pe_int (pa_cons pe_int (pa_cons pe_non pa_nil)))) (pa_cons (pe_tup (pa_cons pe_int (pa_cons (pe_un un_neg pe_int) (pa_cons pe_int pa_nil)))) (pa_cons (pe_tup (pa_cons pe_int (pa_cons pe_int (pa_cons pe_int pa_nil)))) (pa_cons (pe_tup (pa_cons pe_int (pa_cons pe_int (pa_cons (pe_un un_neg pe_int) pa_nil)))) (pa_cons (pe_tup (pa_cons pe_int (pa_cons (pe_call (ok_l_far T) (hr.mono (by decide)) rfl T.g_l_far T.F_l_far.kp T.b_l_far .nil pass0 (pa_cons (pv 0) pa_nil)) (pa_cons pe_non pa_nil)))) pa_nil)))))) (pe_call (ok_l_pull T) (hr.mono (by decide)) rfl T.g_l_pull T.F_l_pull.kp T.b_l_pull .nil pass0 (pa_cons (pv 0) (pa_cons pe_int pa_nil))) (fun _ _ => rfl))) (pss_one (ps_ret (pe_op op_cat (pe_op op_cat (pe_slice (r := rSlL K) sl_list (pv 1) po_none (po_some (pv 3))) (pe_lst (pa_cons (pv 4) pa_nil))) (pe_slice (r := rSlL K) sl_list (pv 1) (po_some (pv 3)) po_none)))))))), ?_⟩
    refine at_start (ρ' := [some _, some _, none, none, none]) rfl ?_
    walk_at "z0"
    walk_at "z"
    rename_i z H1 z0 z1 B1 f1
    refine ite_dec (fun h1 => ?_) (fun h1 => ?_)
    · walk_at "z"
      rename_i t H2 nt e2 ht p H3 np e3 hp
      have hl3 := (e2.trans e3) _ _ (f1 _ _ hlb hl)
      refine s_cat9 hl3 hp (by rw [hlen]; show net.length + 1 ≤ 90000; omega) fun q H4 nq e4 hq => ?_
      walk_at "z"
      have hzq : (vs ++ [V.ref t]).length = net.length + 1 := by
        rw [List.length_append, hlen]
        rfl
      refine ⟨q, 13, _, rfl, rfl, hq, by decide, by decide, sz (by rw [hzq]; show (net.length + 1) * 13 ≤ 100000; omega), fun r nr => ?_⟩
      have e5 : Ex H4 (upd H4 r (.lst (List.replicate (13 : Int).toNat (vs ++ [V.ref t])).flatten)) := Ex.new nr
      have F : Fr b H (upd H4 r (.lst (List.replicate (13 : Int).toNat (vs ++ [V.ref t])).flatten)) := f1.trans ((((e2.trans e3).trans e4).trans e5).fr b)
      have hr0 : H r = none := by
        have h1 := Ex.back ((e2.trans e3).trans e4) nr
        have hrb : r ≠ b := B1.neb h1
        cases hx : H r with
        | none => rfl
        | some o =>
          have := f1 _ _ hrb hx
          rw [h1] at this
          cases this
      have base : All2 (RoadAt K (upd H4 r (.lst (List.replicate (13 : Int).toNat (vs ++ [V.ref t])).flatten))) (vs ++ [V.ref t]) (net ++ [⟨0, 1, some 0⟩]) :=
        (hr2.mono fun _ _ ⟨q, q1, q2⟩ => ⟨q, q1, (((e2.trans e3).trans e4).trans e5).sqT (sqT_pull9 f1 B q2)⟩).snoc ⟨t, rfl, ((e3.trans e4).trans e5).sqT (SqT.of ht)⟩
      refine k r _ _ _ hr0 upd_same (all2_rep base 13) ?_ ?_ (B1.ext (((e2.trans e3).trans e4).trans e5)) F
      · rw [List.length_flatten, List.map_replicate, List.sum_replicate_nat, List.length_append]
        show 13 * (net.length + 1) ≤ 1000
        omega
      · intro x hx
        obtain ⟨l1, hl1, hx1⟩ := List.mem_flatten.mp hx
        rw [(List.mem_replicate.mp hl1).2] at hx1
        rcases List.mem_append.mp hx1 with hx1 | hx1
        · exact sm x hx1
        · rw [List.mem_singleton] at hx1
          subst hx1
          exact sm_lit (by decide) (by decide) (fun x hx => by cases hx; decide)
    · have hl1 := f1 _ _ hlb hl
      walk_at "z"
      rename_i y H2 y0 y1 B2 f2 t1 G1 _ a1 q1 t2 G2 _ a2 q2 t3 G3 _ a3 q3 t4 G4 _ a4 q4 fz G5 fz0 fz1 B5 f5 t5 G6 _ a6 q6 lp G7 nlp a7 hlp y2 G8 y20 y21 B8 f8
      obtain ⟨n, rfl⟩ : ∃ n : Nat, y = n := ⟨y.toNat, by omega⟩
      have a14 := ((a1.trans a2).trans a3).trans a4
      have B4 := B2.ext a14
      have B7 := B5.ext (a6.trans a7)
      have up5 : ∀ {a : Addr} {xs : List V}, SqT K G4 a xs → SqT K G8 a xs := fun q => sqT_pull9 f8 B7 ((a6.trans a7).sqT (sqT_pull9 f5 B4 q))
      have F18 : Fr b H1 G8 := ((((f2.trans (a14.fr b)).trans f5).trans ((a6.trans a7).fr b))).trans f8
      have hl8 := F18 _ _ hlb hl1
      have r8 : All2 (RoadAt K G8) vs net := hr2.mono fun _ _ ⟨q, g1, g2⟩ => ⟨q, g1, up5 (a14.sqT (sqT_pull9 f2 B1 (sqT_pull9 f1 B g2)))⟩
      refine s_ixP (fun v => ∃ r : Road, RoadAt K G8 v r ∧ r.sm) (SqL.of (f8 _ _ ((B5.ext a6).neb nlp) hlp)) ⟨y20, y21⟩ (fun v hv => ?_) fun v ⟨r, hrd, hrs⟩ => ?_
      · simp only [List.mem_cons, List.not_mem_nil, or_false] at hv
        rcases hv with rfl | rfl | rfl | rfl | rfl
        · exact ⟨⟨8, 0, none⟩, ⟨_, rfl, up5 (SqT.of (a4 _ _ (a3 _ _ (a2 _ _ q1))))⟩, sm_lit (by decide) (by decide) (fun x hx => by cases hx)⟩
        · exact ⟨⟨0, -1, some 1⟩, ⟨_, rfl, up5 (SqT.of (a4 _ _ (a3 _ _ q2)))⟩, sm_lit (by decide) (by decide) (fun x hx => by cases hx; decide)⟩
        · exact ⟨⟨1, 2, some 8⟩, ⟨_, rfl, up5 (SqT.of (a4 _ _ q3))⟩, sm_lit (by decide) (by decide) (fun x hx => by cases hx; decide)⟩
        · exact ⟨⟨1, 2, some (-1)⟩, ⟨_, rfl, up5 (SqT.of q4)⟩, sm_lit (by decide) (by decide) (fun x hx => by cases hx; decide)⟩
        · exact ⟨⟨0, fz, none⟩, ⟨_, rfl, sqT_pull9 f8 B7 (a7.sqT (SqT.of q6))⟩, ⟨by show -(2 ^ 80) ≤ (0 : Int); decide, by show (0 : Int) ≤ 2 ^ 80; decide⟩, ⟨by show -(2 ^ 80) ≤ fz; omega, by show fz ≤ 2 ^ 80; omega⟩, fun x hx => by cases hx⟩
      walk_at "z"
      rename_i s1 K1 _ b1 hs1 s2 K2 _ b2 hs2
      rw [cut_take9] at hs1
      refine s_cat9 (b2 _ _ hs1) hs2 (by rw [List.length_take, hlen]; show min n net.length + 1 ≤ 90000; omega) fun s3 K3 _ b3 hs3 => ?_
      walk_at "z"
      rename_i s4 K4 _ b4 hs4
      rw [cut_drop9] at hs4
      have b14 := ((b1.trans b2).trans b3).trans b4
      refine s_cat9 (b4 _ _ hs3) hs4 (by rw [List.length_append, List.length_take, List.length_drop, hlen]; show min n net.length + 1 + (net.length - n) ≤ 90000; omega) fun s5 K5 n5 b5 hs5 => ?_
      have b15 := b14.trans b5
      have n0 : G8 s5 = none := Ex.back b14 n5
      have F := f1.trans (F18.trans (b15.fr b))
      have hr9 := roads_ex b15 r8
      refine k s5 _ ((net.take n ++ [r]) ++ net.drop n) K5 (none_fr (f1.trans F18) (B8.neb n0) n0) hs5 (((all2_take hr9 n).snoc (hrd.ex b15)).app (all2_drop hr9 n)) ?_ ?_ (B8.ext b15) F
      · rw [List.length_append, List.length_append, List.length_take, List.length_drop]
        show min n net.length + 1 + (net.length - n) ≤ 1000
        omega
      · intro x hx
        rcases List.mem_append.mp hx with hx | hx
        · rcases List.mem_append.mp hx with hx | hx
          · exact sm x (List.mem_of_mem_take hx)
          · rw [List.mem_singleton] at hx
            subst hx
            exact hrs
        · exact sm x (List.mem_of_mem_drop hx)

/-! what is told by a way -/
def told16 (T : Tx P K mg w) (f : Addr) (sp : Sp) : Prop := (f = T.f_p_barred ∧ sp = spBar K T.C_BadNet T.C_BadPlace) ∨ (f = T.f_p_way_round ∧ sp = spWay K T.C_BadNet T.C_BadPlace)
theorem held16 (T : Tx P K mg w) (f : Addr) (sp : Sp) (h : told16 T f sp) : HeldX P w K mg base (CX P w) 5 f sp := by
  rcases h with ⟨rfl, rfl⟩ | ⟨rfl, rfl⟩
  · exact ⟨_, _, _, by decide, ok_p_barred T, T.F_p_barred.kp, T.b_p_barred⟩
  · exact ⟨_, _, _, by decide, ok_p_way_round T, T.F_p_way_round.kp, T.b_p_way_round⟩
def spTold16 (K : PySem.W.Frag) : Sp := fun vs H Q _ => ∃ (way : Int) (l g : Addr) (net : List Road) (gs : List Int) (one two : Int), vs = [.int way, .ref l, .ref g, .int one, .int two] ∧ (way = 0 ∨ way = 1) ∧ NetAt K H l net ∧ (∀ r ∈ net, r.sm) ∧ net.length ≤ 1000 ∧ SqL K H g (gs.map V.int) ∧ gs.length ≤ 100 ∧ Sm one ∧ Sm two ∧
  (netOk net = true → okP one = true → okP two = true → way = 0 → ∀ H', Ex H H' → Q (.bl (!decide (two ∈ keysB (bfs (net.filter (opn gs)) one 8)))) H') ∧
  (netOk net = true → okP one = true → okP two = true → way = 1 → ∀ v H', Ex H H' → WayAt K H' (net.filter (opn gs)) one two v → (∀ q, v = .ref q → H q = none) → Q v H') ∧
  (netOk net = false → ∀ H', Ex H H' → Q (.str "BadNet") H') ∧ (netOk net = true → (okP one && okP two) = false → ∀ H', Ex H H' → Q (.str "BadPlace") H')
theorem sc_l_told : FnScope ["_law_way", "_law_net_here", "_law_gates", "_law_one", "_law_two"] ["_law_way", "_law_net_here", "_law_gates", "_law_one", "_law_two"] (defScope s_l_told) :=
  ⟨rfl, rfl, rfl, by decide +kernel, rfl, by decide +kernel, by decide +kernel⟩
theorem ok_l_told (T : Tx P K mg w) : FnOk P w K mg base CX0 6 T.f_l_told T.d_l_told ["_law_way", "_law_net_here", "_law_gates", "_law_one", "_law_two"] (spTold16 K) := by
  refine T.F_l_told.ok sc_l_told (fun vs H Q E h => ?_) (fun cdv A outer s H vs Q E hr h => ?_)
  · obtain ⟨way, l, g, net, gs, one, two, rfl, _⟩ := h
    rfl
  · obtain ⟨way, l, g, net, gs, one, two, rfl, hw, hn, sm, hz, hg, hgz, s1, s2, k0, k1, k2, k3⟩ := h
    refine ⟨_, (pss_one (ps_try_mix rfl rfl sc_l_told.nd takes0 (fun W pn xe tk po => (pss_one (ps_ret (pe_callV (pe_ix (r := rIxL K) ix_list (pe_lst (pa_cons (pe_glob (v := .ref T.f_p_barred) rfl T.g_p_barred rfl) (pa_cons (pe_glob (v := .ref T.f_p_way_round) rfl T.g_p_way_round rfl) pa_nil))) (pv 0) (fun _ _ => rfl)) (held16 T) (hr.mono (by decide)) (fun σ => passAt tk σ) (pa_cons (pv 1) (pa_cons (pv 2) (pa_cons (pv 3) (pa_cons (pv 4) pa_nil)))))))) (HdsM.cons ⟨rfl, by decide, .inl T.g_BadNet⟩ (fun a oe cls d pn hz hf => (pss_one (ps_ret pe_str))) (HdsM.cons ⟨rfl, by decide, .inl T.g_BadPlace⟩ (fun a oe cls d pn hz hf => (pss_one (ps_ret pe_str))) HdsM.nil)))), ?_⟩
    refine at_start (ρ' := [some _, some _, some _, some _, some _]) rfl ?_
    walk_at "z0"
    walk_at "z"
    refine s_callV ?_
    walk_at "z"
    rename_i p H1 np e1 hp
    rcases hw with rfl | rfl
    · refine s_ixL (SqL.of hp) (at0 _ _) ?_
      refine ⟨T.f_p_barred, _, rfl, .inl ⟨rfl, rfl⟩, ?_⟩
      walk_at "z"
      refine ⟨l, g, net, gs, one, two, rfl, hn.ex e1, sm, hz, e1.sqL hg, hgz, s1, s2, fun o1 o2 o3 H' e => k0 o1 o2 o3 rfl H' (e1.trans e), fun z d hd => ?_, fun z1 z2 d hd => ?_⟩
      · refine ⟨true, T.e_BadNet, fun _ a ha => ?_, fun q => Bool.noConfusion q⟩
        dsimp only
        walk_at "z"
        exact k2 z _ (e1.trans (Ex.new hd))
      · refine ⟨false, T.e_BadPlace_BadNet, fun q => Bool.noConfusion q, fun _ => ⟨true, T.e_BadPlace, fun _ a ha => ?_, fun q => Bool.noConfusion q⟩⟩
        dsimp only
        walk_at "z"
        exact k3 z1 z2 _ (e1.trans (Ex.new hd))
    · refine s_ixL (SqL.of hp) (atI_nat (j := 1) rfl) ?_
      refine ⟨T.f_p_way_round, _, rfl, .inr ⟨rfl, rfl⟩, ?_⟩
      walk_at "z"
      refine ⟨l, g, net, gs, one, two, rfl, hn.ex e1, sm, hz, e1.sqL hg, hgz, s1, s2, fun o1 o2 o3 v H' e hv hf => k1 o1 o2 o3 rfl v H' (e1.trans e) hv fun q z => Ex.back e1 (hf q z), fun z d hd => ?_, fun z1 z2 d hd => ?_⟩
      · refine ⟨true, T.e_BadNet, fun _ a ha => ?_, fun q => Bool.noConfusion q⟩
        dsimp only
        walk_at "z"
        exact k2 z _ (e1.trans (Ex.new hd))
      · refine ⟨false, T.e_BadPlace_BadNet, fun q => Bool.noConfusion q, fun _ => ⟨true, T.e_BadPlace, fun _ a ha => ?_, fun q => Bool.noConfusion q⟩⟩
        dsimp only
        walk_at "z"
        exact k3 z1 z2 _ (e1.trans (Ex.new hd))
/-! the law goes out level by level -/
def stepG (gs : List Int) (d : Nat) (S : Bfs) (x : Int × Option Int) : Bfs := if x.1 ∈ keysB S then S else if opn gs ⟨0, 0, x.2⟩ = true then S ++ [(x.1, d + 1)] else S
theorem fold_roads (gs : List Int) (p : Int) (d : Nat) : ∀ (net : List Road) (S : Bfs), (roadsF net p).foldl (stepG gs d) S = grow (net.filter (opn gs)) p d S
  | [], S => rfl
  | r :: net, S => by
    have ih := fold_roads gs p d net
    have e0 : roadsF (r :: net) p = (match endOf r p with | none => [] | some e => [(e, r.g)]) ++ roadsF net p := by
      unfold roadsF
      rw [List.filterMap_cons]
      cases endOf r p <;> rfl
    have eo : opn gs ⟨0, 0, r.g⟩ = opn gs r := rfl
    rw [e0, List.foldl_append, ih]
    cases ho : opn gs r with
    | true =>
      rw [List.filter_cons, if_pos ho]
      unfold grow
      rw [List.foldl_cons]
      congr 1
      unfold stepR
      cases he : endOf r p with
      | none => rfl
      | some e =>
        show stepG gs d S (e, r.g) = _
        unfold stepG
        dsimp only
        rw [eo, ho, if_pos rfl]
    | false =>
      rw [List.filter_cons, if_neg (by rw [ho]; decide)]
      congr 1
      cases he : endOf r p with
      | none => rfl
      | some e =>
        show stepG gs d S (e, r.g) = _
        unfold stepG
        dsimp only
        rw [eo, ho]
        split
        · rfl
        · rfl
/-- what the law has found: each place with its steps -/
structure FoundI (K : PySem.W.Frag) (H : Hp) (D : Addr) (S : Bfs) (kvs : List (Key × V)) : Prop where
  dc : H D = some (.dK kvs)
  keys : ∀ x : Int, (valV kvs (.inl x)).isSome = true ↔ x ∈ keysB S
  val : ∀ p d, (p, d) ∈ S → valV kvs (.inl p) = some (.int (d : Nat))
  len : kvs.length = S.length
def spFar (K : PySem.W.Frag) : Sp := fun vs H Q _ => ∃ (l g : Addr) (net : List Road) (gs : List Int) (one : Int), vs = [.ref l, .ref g, .int one] ∧ NetAt K H l net ∧ net.length ≤ 1000 ∧ SqL K H g (gs.map V.int) ∧ netOk net = true ∧ okP one = true ∧
  ∀ D kvs H', H D = none → Ex H H' → FoundI K H' D (bfs (net.filter (opn gs)) one 8) kvs → Q (.ref D) H'
theorem sc_l_far_off : FnScope ["_law_net_here", "_law_gates", "_law_one", "_law_found", "_law_front", "_law_step", "_law_later", "_law_place_here", "_law_there", "_law_gate_here"] ["_law_net_here", "_law_gates", "_law_one"] (defScope s_l_far_off) :=
  ⟨rfl, rfl, rfl, by decide +kernel, rfl, by decide +kernel, by decide +kernel⟩
theorem ok_l_far_off (T : Tx P K mg w) : FnOk P w K mg base CX0 2 T.f_l_far_off T.d_l_far_off ["_law_net_here", "_law_gates", "_law_one"] (spFar K) := by
  refine T.F_l_far_off.ok sc_l_far_off (fun vs H Q E h => ?_) (fun cdv A outer s H vs Q E hr h => ?_)
  · obtain ⟨l, g, net, gs, one, rfl, _⟩ := h
    rfl
  · obtain ⟨l, g, net, gs, one, rfl, hn, hz, hg, ok1, ok2, k⟩ := h
    refine ⟨_, (pss_cons (ps_set (i := 3) sc_l_far_off.nd rfl (Or.inl rfl) (pe_disp (pps_cons (pv 2) pe_int pps_nil) rfl rfl (by simp) (by decide))) (pss_cons (ps_set (i := 4) sc_l_far_off.nd rfl (Or.inl rfl) (pe_lst (pa_cons (pv 2) pa_nil))) (pss_cons (ps_for PassesOwn.never rfl (pi_range1 (by rfl) T.z_range (pa_cons pe_int pa_nil)) (pg_name (i := 5) sc_l_far_off.nd rfl (Or.inl rfl)) (pss_cons (ps_set (i := 6) sc_l_far_off.nd rfl (Or.inl rfl) (pe_lst pa_nil)) (pss_cons (ps_for PassesOwn.never rfl (pi_list (pv 4)) (pg_name (i := 7) sc_l_far_off.nd rfl (Or.inl rfl)) (pss_one (ps_for PassesOwn.never rfl (pi_list (pe_call (ok_l_roads T) (hr.mono (by decide)) rfl T.g_l_roads T.F_l_roads.kp T.b_l_roads .nil pass0 (pa_cons (pv 0) (pa_cons (pv 7) pa_nil)))) (pg_tup (by rfl) (pgs_cons (pg_name (i := 8) sc_l_far_off.nd rfl (Or.inl rfl)) (pgs_cons (pg_name (i := 9) sc_l_far_off.nd rfl (Or.inl rfl)) pgs_nil))) (pss_one (ps_if (PW.pt (pw_and (pt_cmp (pc_dnotin (hu_of hr) (pv 8) (pv 3))) (pw_and1 (pt_cmpR (r := rIn K true) op_notIn_seq (pv 9) (pv 1) (by rfl))))) (pss_cons (ps_dput (hu_of hr) (pv 3) (pv 8) (pe_op op_add (pv 5) pe_int) rfl) (pss_one (ps_expr (pe_bm PySem.F.plainAttrs_list PySem.F.slot_list_append PySem.F.type_list_append mt_append (pv 6) (pa_cons (pv 8) pa_nil))))) pss_nil))))) (pss_one (ps_set (i := 4) sc_l_far_off.nd rfl (Or.inl rfl) (pv 6)))))) (pss_one (ps_ret (pv 3)))))), ?_⟩
    refine at_start (ρ' := [some _, some _, some _, none, none, none, none, none, none, none]) rfl ?_
    walk_at "z0"
    walk_at "z"
    intro D nD
    refine s_pairV ?_
    walk_at "z"
    refine s_pairN9 ⟨upd_same, [(.inl one, .int 0)], rfl, by show 1 ≤ 15; decide, ?_⟩
    have ek : mergeK [] [((Sum.inl one : Key), V.int 0)] = [(Sum.inl one, V.int 0)] := rfl
    rw [ek]
    have e1 : Ex H (upd (upd H D (.dK [])) D (.dK [(.inl one, .int 0)])) := (Ex.new nD).mut nD
    have hD1 : (upd (upd H D (.dK [])) D (.dK [(.inl one, .int 0)])) D = some (.dK [(.inl one, .int 0)]) := upd_same
    dsimp only
    generalize upd (upd H D (.dK [])) D (.dK [(.inl one, .int 0)]) = H1 at e1 hD1
    walk_at "z"
    rename_i fl H2 nfl e2 hfl
    have okrs : ∀ x ∈ net.filter (opn gs), x.ok = true := fun x hx => by
      unfold netOk at ok1
      rw [Bool.and_eq_true] at ok1
      exact List.all_eq_true.mp ok1.2 x (List.mem_filter.mp hx).1
    have hgrow : ∀ p d S, (roadsF net p).foldl (stepG gs d) S = grow (net.filter (opn gs)) p d S := fun p d S => fold_roads gs p d net S
    generalize net.filter (opn gs) = rs at k okrs hgrow
    have good := bfs_good (rs := rs) ok2 okrs
    have kx : ∀ x : Int, (valV [((Sum.inl one : Key), V.int 0)] (.inl x)).isSome = true ↔ x ∈ keysB (bfs rs one 0) := by
      intro x
      show _ ↔ x ∈ [one]
      by_cases hx : x = one
      · subst hx
        rw [valV_pos (p := ((Sum.inl x : Key), V.int 0)) rfl]
        simp
      · rw [valV_neg (p := ((Sum.inl one : Key), V.int 0)) (fun z => hx (by cases z; rfl))]
        simp [valV_nil, hx]
    have px : ∀ p d, (p, d) ∈ bfs rs one 0 → valV [((Sum.inl one : Key), V.int 0)] (.inl p) = some (.int (d : Nat)) := by
      intro p d hpd
      have hp1 : (p, d) = (one, 0) := List.mem_singleton.mp hpd
      cases hp1
      exact valV_pos (p := ((Sum.inl one : Key), V.int 0)) rfl
    have I0 : FoundI K H2 D (bfs rs one 0) [(.inl one, .int 0)] := ⟨e2 _ _ hD1, kx, px, rfl⟩
    have d0 : ∀ (j : Nat) x, (bfs rs one 0)[j]? = some x → 0 ≤ j → x.2 = 0 := fun j x hx _ => by
      have := List.mem_of_getElem? hx
      have hx1 : x = (one, 0) := List.mem_singleton.mp this
      rw [hx1]
    refine l_range ⟨by decide, by decide⟩ (fun s σ H' => ∃ (v5 v6 v7 v8 v9 : Option V) (F : Addr) (lo : Nat) (kvs : List (Key × V)), σ = [some (.ref l), some (.ref g), some (.int one), some (.ref D), some (.ref F), v5, v6, v7, v8, v9] ∧ Ex H H' ∧ FoundI K H' D (bfs rs one lo) kvs ∧ lo ≤ (bfs rs one lo).length ∧ H' F = some (.lst (((keysB (bfs rs one lo)).drop lo).map V.int)) ∧ (s ≤ lo ∨ (bfs rs one lo).length ≤ lo) ∧ ∀ (j : Nat) x, (bfs rs one lo)[j]? = some x → lo ≤ j → x.2 = s)
      ⟨_, _, _, _, _, fl, 0, _, rfl, e1.trans e2, I0, Nat.zero_le _, hfl, .inl (Nat.zero_le _), d0⟩ (fun s σ H3 hs h => ?_) (fun σ H3 h => ?_)
    · clear I0 d0 hfl
      obtain ⟨v5, v6, v7, v8, v9, F, lo, kvs, rfl, E3, I3, hlo, hF3, hfin, hd3⟩ := h
      walk_at "z"
      rename_i LT H4 nLT e4 hLT
      have hFL : F ≠ LT := ne_of_none hF3 nLT
      have hLH : H LT = none := Ex.back E3 nLT
      have hgl : ((keysB (bfs rs one lo)).drop lo).length = (bfs rs one lo).length - lo := by
        rw [List.length_drop]
        unfold keysB
        rw [List.length_map]
      refine l_list (((keysB (bfs rs one lo)).drop lo).map V.int) (fun t σ H' => ∃ (v7 v8 v9 : Option V) (kvs : List (Key × V)), σ = [some (.ref l), some (.ref g), some (.int one), some (.ref D), some (.ref F), some (.int (s : Nat)), some (.ref LT), v7, v8, v9] ∧ Ex H H' ∧ FoundI K H' D (bfs rs one (lo + t)) kvs ∧ H' F = some (.lst (((keysB (bfs rs one lo)).drop lo).map V.int)) ∧ H' LT = some (.lst (((keysB (bfs rs one (lo + t))).drop (bfs rs one lo).length).map V.int)) ∧ ∀ (j : Nat) x, (bfs rs one (lo + t))[j]? = some x → (bfs rs one lo).length ≤ j → x.2 = s + 1)
        ⟨_, _, _, _, rfl, E3.trans e4, ⟨e4 _ _ I3.dc, I3.keys, I3.val, I3.len⟩, e4 _ _ hF3, by
          rw [hLT, Nat.add_zero, List.drop_of_length_le (by unfold keysB; rw [List.length_map]; exact Nat.le_refl _)]
          rfl, fun j x hx hj => by
          have := (List.getElem?_eq_some_iff.mp hx).1
          rw [Nat.add_zero] at this
          omega⟩ (fun t σ H5 ht h => ?_) (fun t x σ H5 hx h => ?_) (fun σ H5 h => ?_)
      · obtain ⟨_, _, _, _, rfl, _, _, hF, _⟩ := h
        exact SqL.of hF
      · clear I3 hF3 hLT
        obtain ⟨v7, v8, v9, kv2, rfl, E5, I5, hF5, hL5, hd5⟩ := h
        rw [List.getElem?_map] at hx
        obtain ⟨n0, hn0, rfl⟩ := Option.map_eq_some_iff.mp hx
        rw [List.getElem?_drop] at hn0
        unfold keysB at hn0
        rw [List.getElem?_map] at hn0
        obtain ⟨⟨p, d⟩, hpd, hp0⟩ := Option.map_eq_some_iff.mp hn0
        dsimp only at hp0
        subst hp0
        have hds : d = s := hd3 (lo + t) (p, d) hpd (by omega)
        subst hds
        have hpre := bfs_mono rs one (show lo ≤ lo + t by omega)
        have hlt := (List.getElem?_eq_some_iff.mp hpd).1
        have hpd2 : (bfs rs one (lo + t))[lo + t]? = some (p, d) := by
          obtain ⟨tl, htl⟩ := hpre
          rw [← htl, List.getElem?_append_left hlt]
          exact hpd
        have hb1 : bfs rs one (lo + t + 1) = grow rs p d (bfs rs one (lo + t)) := by
          show (match (bfs rs one (lo + t))[lo + t]? with | some (p, d) => grow rs p d (bfs rs one (lo + t)) | none => bfs rs one (lo + t)) = _
          rw [hpd2]
        have hlen2 := hpre.length_le
        have hG := good (lo + t)
        walk_at "z"
        refine ⟨l, net, p, rfl, hn.ex E5, hz, fun R acc H6 nR e6 hR hrs => ?_⟩
        have hRL : R ≠ LT := fun z => by
          rw [z, hL5] at nR
          cases nR
        have hRH : H R = none := Ex.back E5 nR
        have hal := hrs.len
        refine l_list acc (fun u σ H' => ∃ (v8 v9 : Option V) (kvs : List (Key × V)), σ = [some (.ref l), some (.ref g), some (.int one), some (.ref D), some (.ref F), some (.int (d : Nat)), some (.ref LT), some (.int p), v8, v9] ∧ Ex H H' ∧ FoundI K H' D (((roadsF net p).take u).foldl (stepG gs d) (bfs rs one (lo + t))) kvs ∧ H' F = some (.lst (((keysB (bfs rs one lo)).drop lo).map V.int)) ∧ H' LT = some (.lst (((keysB (((roadsF net p).take u).foldl (stepG gs d) (bfs rs one (lo + t)))).drop (bfs rs one lo).length).map V.int)) ∧ (∀ (j : Nat) x, (((roadsF net p).take u).foldl (stepG gs d) (bfs rs one (lo + t)))[j]? = some x → (bfs rs one lo).length ≤ j → x.2 = d + 1) ∧ (bfs rs one lo).length ≤ (((roadsF net p).take u).foldl (stepG gs d) (bfs rs one (lo + t))).length ∧ GoodB (((roadsF net p).take u).foldl (stepG gs d) (bfs rs one (lo + t))) ∧ H' R = some (.lst acc) ∧ All2 (PairR K H') acc (roadsF net p))
          ⟨_, _, kv2, rfl, E5.trans e6, ⟨e6 _ _ I5.dc, I5.keys, I5.val, I5.len⟩, e6 _ _ hF5, e6 _ _ hL5, hd5, hlen2, hG, hR, hrs⟩ (fun u σ H7 hu h => ?_) (fun u x σ H7 hx9 h => ?_) (fun σ H7 h => ?_)
        · obtain ⟨_, _, _, rfl, _, _, _, _, _, _, _, hR7, _⟩ := h
          exact SqL.of hR7
        · clear I5 hF5 hL5 hd5 hR hrs hn0
          obtain ⟨v8, v9, kv3, rfl, E7, I7, hF7, hL7, hd7, hl7, hG7, hR7, hrs7⟩ := h
          obtain ⟨⟨e, g0⟩, hx1, q, rfl, hq⟩ := hrs7.get hx9
          have okE : 0 ≤ e ∧ e ≤ 7 := by
            have hm := List.mem_of_getElem? hx1
            unfold roadsF at hm
            obtain ⟨r, hr1, hr2⟩ := List.mem_filterMap.mp hm
            obtain ⟨e2, he2, he3⟩ := Option.map_eq_some_iff.mp hr2
            cases he3
            unfold netOk at ok1
            rw [Bool.and_eq_true] at ok1
            exact end_ok (List.all_eq_true.mp ok1.2 r hr1) he2
          have hnx : ((roadsF net p).take (u + 1)).foldl (stepG gs d) (bfs rs one (lo + t)) = stepG gs d (((roadsF net p).take u).foldl (stepG gs d) (bfs rs one (lo + t))) (e, g0) := by
            rw [List.take_succ, hx1, List.foldl_append]
            rfl
          rw [hnx]
          generalize ((roadsF net p).take u).foldl (stepG gs d) (bfs rs one (lo + t)) = S at I7 hL7 hd7 hl7 hG7
          have hg7 := E7.sqL hg
          have inq : inV (optV g0) (gs.map V.int) = !opn gs ⟨0, 0, g0⟩ := by
            cases g0 with
            | none => exact inV_non _
            | some g1 =>
              show inV (.int g1) _ = _
              rw [inV_ints9]
              unfold opn
              rw [Bool.not_not]
          have fl : flatV (optV g0) = true := by cases g0 <;> rfl
          refine s_gTup hq rfl ?_
          walk_at "z"
          refine s_tDNotIn ?_
          walk_at "z"
          refine s_dnotinI I7.dc ?_
          have hke := I7.keys e
          cases hv : valV kv3 (.inl e) with
          | some v0 =>
            rw [hv] at hke
            walk_at "z"
            have hst : stepG gs d S (e, g0) = S := by
              unfold stepG
              rw [if_pos (hke.mp rfl)]
            rw [hst]
            exact ⟨_, _, kv3, rfl, E7, I7, hF7, hL7, hd7, hl7, hG7, hR7, hrs7⟩
          | none =>
            rw [hv] at hke
            have hne : e ∉ keysB S := fun z => by
              have := hke.mpr z
              cases this
            walk_at "z"
            refine s_rNotInSeq (.inl hg7) fl (flat_ints9 _) ?_
            rw [inq, Bool.not_not]
            cases ho : opn gs ⟨0, 0, g0⟩ with
            | false =>
              walk_at "z"
              have hst : stepG gs d S (e, g0) = S := by
                unfold stepG
                dsimp only
                rw [if_neg hne, ho]
                rfl
              rw [hst]
              exact ⟨_, _, kv3, rfl, E7, I7, hF7, hL7, hd7, hl7, hG7, hR7, hrs7⟩
            | true =>
              have hst : stepG gs d S (e, g0) = S ++ [(e, d + 1)] := by
                unfold stepG
                dsimp only
                rw [if_neg hne, ho, if_pos rfl]
              rw [hst]
              walk_at "z"
              refine s_tDPut ?_
              walk_at "z"
              have hl8 := good_len hG7
              have hkv := I7.len
              refine s_dputI I7.dc (by omega) fun H9 f9 hD9 => ?_
              have hL9 := f9 _ _ (ne_of hL7 I7.dc (fun z => by cases z)) hL7
              walk_at "z"
              have hz7 : (((keysB S).drop (bfs rs one lo).length).map V.int).length ≤ 1000 := by
                rw [List.length_map, List.length_drop]
                unfold keysB
                rw [List.length_map]
                omega
              refine s_app hL9 (szl (by omega)) fun H10 f10 hL10 => ?_
              have t9 := tk_dK (K := K) f9 I7.dc
              have t10 := tk_lst (K := K) f10 hL9
              have lst_up : ∀ {a : Addr} {xs : List V}, a ≠ LT → H7 a = some (.lst xs) → H10 a = some (.lst xs) := fun na ha => f10 _ _ na (f9 _ _ (ne_of ha I7.dc (fun z => by cases z)) ha)
              have hkp : ∀ x : Int, valV (putK kv3 (Sum.inl e) (V.int (((d : Nat) : Int) + 1))) (.inl x) = if x = e then some (V.int (((d : Nat) : Int) + 1)) else valV kv3 (.inl x) := fun x => by
                rw [valV_put]
                by_cases hx : x = e
                · subst hx
                  rw [if_pos rfl, if_pos rfl]
                · rw [if_neg hx, if_neg (fun z => hx (by cases z; rfl))]
              have I10 : FoundI K H10 D (S ++ [(e, d + 1)]) (putK kv3 (Sum.inl e) (V.int (((d : Nat) : Int) + 1))) := by
                refine ⟨f10 _ _ (ne_of hD9 hL9 (fun z => by cases z)) hD9, fun x => ?_, fun p' d' hp' => ?_, ?_⟩
                · rw [hkp]
                  unfold keysB
                  rw [List.map_append, List.mem_append]
                  by_cases hx : x = e
                  · rw [if_pos hx]
                    simp [hx]
                  · rw [if_neg hx]
                    have := I7.keys x
                    unfold keysB at this
                    rw [this]
                    simp [hx]
                · rw [hkp]
                  rcases List.mem_append.mp hp' with hp' | hp'
                  · have hx : p' ≠ e := fun z => hne (by
                      unfold keysB
                      exact List.mem_map.mpr ⟨(p', d'), hp', z⟩)
                    rw [if_neg hx]
                    exact I7.val p' d' hp'
                  · have he2 : (p', d') = (e, d + 1) := List.mem_singleton.mp hp'
                    cases he2
                    rw [if_pos rfl]
                    rfl
                · rw [putK_none hv, List.length_append, List.length_append, hkv]
                  rfl
              refine ⟨_, _, _, rfl, (E7.fr2 nD f9).fr2 hLH f10, I10, lst_up hFL hF7, ?_, fun j x hx hj => ?_, by rw [List.length_append]; omega, ⟨?_, fun x hx => ?_⟩, lst_up hRL hR7, hrs7.mono fun _ _ ⟨qq, g1, g2⟩ => ⟨qq, g1, t10 _ _ (t9 _ _ g2)⟩⟩
              · rw [hL10]
                unfold keysB
                rw [List.map_append, List.drop_append_of_le_length (by rw [List.length_map]; exact hl7), List.map_append]
                rfl
              · by_cases hjs : j < S.length
                · rw [List.getElem?_append_left hjs] at hx
                  exact hd7 j x hx hj
                · rw [List.getElem?_append_right (by omega)] at hx
                  have hm := List.mem_of_getElem? hx
                  rw [List.mem_singleton] at hm
                  rw [hm]
              · unfold keysB
                rw [List.map_append]
                refine List.nodup_append.mpr ⟨hG7.nd, by simp, fun a ha b hb => ?_⟩
                simp only [List.map_cons, List.map_nil, List.mem_singleton] at hb
                subst hb
                intro z
                exact hne (z ▸ ha)
              · rcases List.mem_append.mp hx with hx | hx
                · exact hG7.ok x hx
                · rw [List.mem_singleton] at hx
                  subst hx
                  exact okE
        · obtain ⟨v8, v9, kv3, rfl, E7, I7, hF7, hL7, hd7, hl7, hG7, hR7, hrs7⟩ := h
          rw [hal, List.take_length, hgrow, ← hb1] at I7 hL7 hd7
          exact ⟨_, _, _, kv3, rfl, E7, I7, hF7, hL7, hd7⟩
      · clear I3 hLT
        obtain ⟨v7, v8, v9, kv2, rfl, E5, I5, hF5, hL5, hd5⟩ := h
        rw [List.length_map, hgl, show lo + ((bfs rs one lo).length - lo) = (bfs rs one lo).length from by omega] at I5 hL5 hd5
        walk_at "z"
        have hpre := bfs_mono rs one hlo
        refine ⟨_, _, _, _, _, LT, (bfs rs one lo).length, kv2, rfl, E5, I5, hpre.length_le, hL5, ?_, fun j x hx hj => hd5 j x hx hj⟩
        by_cases hq : (bfs rs one lo).length ≤ lo
        · right
          have : (bfs rs one lo).length = lo := by omega
          rw [this]
          omega
        · left
          rcases hfin with z | z <;> omega
    · obtain ⟨v5, v6, v7, v8, v9, F, lo, kvs, rfl, E3, I3, hlo, hF3, hfin, hd3⟩ := h
      walk_at "z"
      have h8 := good_len (good lo)
      have hdone : (bfs rs one lo).length ≤ lo := by
        have e9 : (9 : Int).toNat = 9 := rfl
        rw [e9] at hfin
        rcases hfin with z | z
        · omega
        · exact z
      have hb := bfs_done ok2 okrs hdone 8 (by omega)
      rw [← hb] at I3
      exact k D kvs H3 nD E3 I3

/-! a way is seen to be one -/
theorem at_last {α : Type} {xs : List α} {v : α} (h0 : 0 < xs.length) (h : xs[xs.length - 1]? = some v) : atI xs (-1) = some v := by
  unfold atI ixN
  rw [if_neg (by decide), if_pos (by omega)]
  show xs[((-1 : Int) + (xs.length : Int)).toNat]? = some v
  rw [show ((-1 : Int) + (xs.length : Int)).toNat = xs.length - 1 from by omega]
  exact h
theorem s_any9 {p : Addr} (bs : List Bool) {xs : List V} {H : Hp} {Q : VK} (h : SqL K H p xs) (e : xs = bs.map V.bl) (k : Q (.bl (bs.any id)) H) : rAny K [.ref p] H Q := ⟨p, bs, rfl, by rw [← e]; exact h, k⟩
def spWayOk (K : PySem.W.Frag) : Sp := fun vs H Q _ => ∃ (l g q : Addr) (net : List Road) (gs pl : List Int) (one two : Int) (d : Nat), vs = [.ref l, .ref g, .ref q, .int one, .int two, .int (d : Nat)] ∧ NetAt K H l net ∧ net.length ≤ 1000 ∧ SqL K H g (gs.map V.int) ∧ H q = some (.lst (pl.map V.int)) ∧ PathOk (net.filter (opn gs)) one two d pl ∧ d ≤ 100 ∧ ∀ H', Ex H H' → Q (.bl true) H'
theorem sc_l_way_ok : FnScope ["_law_net_here", "_law_gates", "_law_way", "_law_one", "_law_two", "_law_steps", "_law_at", "_law_place_here", "_law_there", "_law_gate_here"] ["_law_net_here", "_law_gates", "_law_way", "_law_one", "_law_two", "_law_steps"] (defScope s_l_way_ok) :=
  ⟨rfl, rfl, rfl, by decide +kernel, rfl, by decide +kernel, by decide +kernel⟩
theorem ok_l_way_ok (T : Tx P K mg w) : FnOk P w K mg base CX0 2 T.f_l_way_ok T.d_l_way_ok ["_law_net_here", "_law_gates", "_law_way", "_law_one", "_law_two", "_law_steps"] (spWayOk K) := by
  refine T.F_l_way_ok.ok sc_l_way_ok (fun vs H Q E h => ?_) (fun cdv A outer s H vs Q E hr h => ?_)
  · obtain ⟨l, g, q, net, gs, pl, one, two, d, rfl, _⟩ := h
    rfl
  · obtain ⟨l, g, q, net, gs, pl, one, two, d, rfl, hn, hz, hg, hq, hp, hd, k⟩ := h
    have hlen := hp.len
    refine ⟨_, (pss_cons (ps_if (PW.pt (pw_or (pt_not (pt_val (pe_callB (r := rIsi K) call_isi (by rfl) T.z_isinstance (by decide +kernel) (pa_cons (pv 2) (pa_cons (pe_bltn (v := .ty "list") rfl T.z_list (by decide +kernel) rfl) pa_nil))))) (pw_or (pt_not (pt_val (pe_callB (r := rAll K) (cr_all rfl) (by rfl) T.z_all (by decide +kernel) (pa_cons (pe_lc (own := [("_law_place_here", 7)]) (by rfl) sc_l_way_ok.nd (pi_list (pv 2)) (blkOk_by (own := [("_law_place_here", 7)]) (N := ["_law_net_here", "_law_gates", "_law_way", "_law_one", "_law_two", "_law_steps", "_law_at", "_law_place_here", "_law_there", "_law_gate_here"]) (sc := defScope s_l_way_ok) (by decide +kernel)) (fun _ _ _ _ _ => (pg_name (i := 7) sc_l_way_ok.nd rfl (Or.inl rfl))) (fun _ _ _ _ _ => pts_nil) (fun _ _ _ _ _ => (pe_call (ok_l_num T) (hr.mono (by decide)) rfl T.g_l_num T.F_l_num.kp T.b_l_num .nil pass0 (pa_cons (pv 7) pa_nil)))) pa_nil)))) (pw_or1 (pt_cmpR op_ne (pe_callB (r := Z.rLen K) cz_len (by rfl) T.z_len PySem.boot_len (pa_cons (pv 2) pa_nil)) (pe_op op_add (pv 5) pe_int) (nomark _)))))) (pss_one (ps_ret pe_bl)) pss_nil) (pss_cons (ps_if (PW.pt (pw_or (pt_cmpR op_ne (pe_ix (r := rIxL K) ix_list (pv 2) pe_int (fun _ _ => rfl)) (pv 3) (nomark _)) (pw_or1 (pt_cmpR op_ne (pe_ix (r := rIxL K) ix_list (pv 2) (pe_un un_neg pe_int) (fun _ _ => rfl)) (pv 4) (nomark _))))) (pss_one (ps_ret pe_bl)) pss_nil) (pss_cons (ps_for PassesOwn.never rfl (pi_range1 (by rfl) T.z_range (pa_cons (pv 5) pa_nil)) (pg_name (i := 6) sc_l_way_ok.nd rfl (Or.inr rfl)) (pss_one (ps_if (pt_not (pt_val (pe_callB (r := rAny K) (cr_any rfl) (by rfl) T.z_any (by decide +kernel) (pa_cons (pe_lc (own := [("_law_there", 8), ("_law_gate_here", 9)]) (by rfl) sc_l_way_ok.nd (pi_list (pe_call (ok_l_roads T) (hr.mono (by decide)) rfl T.g_l_roads T.F_l_roads.kp T.b_l_roads .nil pass0 (pa_cons (pv 0) (pa_cons (pe_ix (r := rIxL K) ix_list (pv 2) (pv 6) (fun _ _ => rfl)) pa_nil)))) (blkOk_by (own := [("_law_there", 8), ("_law_gate_here", 9)]) (N := ["_law_net_here", "_law_gates", "_law_way", "_law_one", "_law_two", "_law_steps", "_law_at", "_law_place_here", "_law_there", "_law_gate_here"]) (sc := defScope s_l_way_ok) (by decide +kernel)) (fun _ _ _ _ _ => (pg_tupK (K := K) 2 rfl (by rfl) (pgs_cons (pg_name (i := 8) sc_l_way_ok.nd rfl (Or.inl rfl)) (pgs_cons (pg_name (i := 9) sc_l_way_ok.nd rfl (Or.inl rfl)) pgs_nil)))) (fun _ _ _ _ _ => pts_nil) (fun _ _ _ _ _ => (pe_and (pe_cmpR op_eq (pv 8) (pe_ix (r := rIxL K) ix_list (pv 2) (pe_op op_add (pv 6) pe_int) (fun _ _ => rfl)) (nomark _)) (pe_one (pe_cmpR (r := rIn K true) op_notIn_seq (pv 9) (pv 1) (by rfl)))))) pa_nil)))) (pss_one (ps_ret pe_bl)) pss_nil))) (pss_one (ps_ret pe_bl))))), ?_⟩
    refine at_start (ρ' := [some _, some _, some _, some _, some _, some _, none, none, none, none]) rfl ?_
    walk_at "z0"
    walk_at "z"
    refine c_list (pl.map V.int) (SqL.of hq) (fun D H' => H D = none ∧ Ex H H') (fun D i acc H' => acc = (List.replicate i true).map V.bl) (fun D H' n e _ => ⟨⟨n, e⟩, rfl⟩) (fun D H' Iv => SqL.of (Iv.2 _ _ hq)) (fun D i acc H1 x hx Iv hD hn r => ?_) (fun D acc H1 Iv hD hn1 r => ?_)
    · obtain ⟨nD, e1⟩ := Iv
      rw [List.getElem?_map] at hx
      obtain ⟨n, hn1, rfl⟩ := Option.map_eq_some_iff.mp hx
      have hi : i < pl.length := (List.getElem?_eq_some_iff.mp hn1).1
      walk_at "z"
      refine ⟨rfl, ?_⟩
      walk_at "z"
      refine ⟨n, rfl, ?_⟩
      refine c_put hD ⟨hn, by omega⟩ fun H3 f3 _ => ⟨⟨nD, e1.fr2 nD f3⟩, ?_⟩
      rw [r, List.replicate_succ', List.map_append]
      rfl
    · obtain ⟨nD, e1⟩ := Iv
      rw [List.length_map] at r
      have hq1 := e1 _ _ hq
      walk_at "z"
      refine s_rAll (List.replicate pl.length true) (SqL.of hD) r ?_
      rw [show (List.replicate pl.length true).all id = true from List.all_eq_true.mpr fun x hx => by rw [(List.mem_replicate.mp hx).2]; rfl]
      walk_at "z"
      rw [List.length_map, hlen]
      refine ite_nneg (by omega) ?_
      walk_at "z"
      refine s_ixL (SqL.of hq1) (atI_nat (j := 0) (v := .int one) (by rw [List.getElem?_map, hp.first]; rfl)) ?_
      walk_at "z"
      rw [decide_eq_true rfl]
      walk_at "z"
      refine s_ixL (SqL.of hq1) (at_last (v := .int two) (by rw [List.length_map, hlen]; omega) (by rw [List.length_map, hlen, List.getElem?_map, Nat.add_sub_cancel, hp.last]; rfl)) ?_
      walk_at "z"
      rw [decide_eq_true rfl]
      walk_at "z"
      refine l_range ⟨by omega, by omega⟩ (fun i σ H' => ∃ (v6 v7 v8 v9 : Option V), σ = [some (.ref l), some (.ref g), some (.ref q), some (.int one), some (.int two), some (.int (d : Nat)), v6, v7, v8, v9] ∧ Ex H H') ⟨_, _, _, _, rfl, e1⟩ (fun i σ H2 hi h => ?_) (fun σ H2 h => ?_)
      · obtain ⟨v6, v7, v8, v9, rfl, e2⟩ := h
        have hq2 := e2 _ _ hq
        obtain ⟨x, hx⟩ : ∃ x, pl[i]? = some x := ⟨_, List.getElem?_eq_getElem (by omega)⟩
        obtain ⟨y, hy⟩ : ∃ y, pl[i + 1]? = some y := ⟨_, List.getElem?_eq_getElem (by omega)⟩
        obtain ⟨r0, hr0, he0⟩ := hp.road i x y hx hy
        walk_at "z"
        refine s_ixL (SqL.of hq2) (atI_nat (v := .int x) (by rw [List.getElem?_map, hx]; rfl)) ?_
        walk_at "z"
        refine ⟨l, net, x, rfl, hn.ex e2, hz, fun R acc H3 nR e3 hR hrs => ?_⟩
        have hal := hrs.len
        have haz : acc.length ≤ 1000 := by
          rw [hal]
          unfold roadsF
          exact Nat.le_trans (List.length_filterMap_le ..) hz
        refine c_list acc (SqL.of hR) (fun D' H' => H3 D' = none ∧ Ex H3 H') (fun D' j ac H' => ac = ((roadsF net x).take j).map fun z => V.bl (decide (z.1 = y) && opn gs ⟨0, 0, z.2⟩)) (fun D' H' n e _ => ⟨⟨n, e⟩, rfl⟩) (fun D' H' Iv => SqL.of (Iv.2 _ _ hR)) (fun D' j ac H4 x4 hx4 Iv hD4 hn4 r4 => ?_) (fun D' ac H4 Iv hD4 hn4 r4 => ?_)
        · obtain ⟨nD4, e4⟩ := Iv
          obtain ⟨⟨e, g0⟩, hx1, p, rfl, hpq⟩ := hrs.get hx4
          have hjl : j < acc.length := (List.getElem?_eq_some_iff.mp hx4).1
          have hp4 := e4.sqT hpq
          have hq4 := e4 _ _ (e3 _ _ hq2)
          have hg4 := ((e2.trans e3).trans e4).sqL hg
          have inq : inV (optV g0) (gs.map V.int) = !opn gs ⟨0, 0, g0⟩ := by
            cases g0 with
            | none => exact inV_non _
            | some g1 =>
              show inV (.int g1) _ = _
              rw [inV_ints9]
              unfold opn
              rw [Bool.not_not]
          have fl : flatV (optV g0) = true := by cases g0 <;> rfl
          have fin : ∀ bv : Bool, bv = (decide (e = y) && opn gs ⟨0, 0, g0⟩) → ac ++ [V.bl bv] = ((roadsF net x).take (j + 1)).map fun z => V.bl (decide (z.1 = y) && opn gs ⟨0, 0, z.2⟩) := fun bv hb => by
            rw [r4, List.take_succ, hx1, List.map_append, hb]
            rfl
          refine s_gTup hp4 rfl ?_
          walk_at "z"
          refine ⟨rfl, ?_⟩
          walk_at "z"
          refine s_ixL (SqL.of hq4) (by
            rw [show (i : Int) + 1 = ((i + 1 : Nat) : Int) from by omega]
            exact atI_nat (v := .int y) (by rw [List.getElem?_map, hy]; rfl)) ?_
          walk_at "z"
          refine ite_dec (fun hey => ?_) (fun hey => ?_)
          · walk_at "z"
            refine s_rNotInSeq (.inl hg4) fl (flat_ints9 _) ?_
            rw [inq, Bool.not_not]
            exact c_put hD4 ⟨hn4, by omega⟩ fun H5 f5 _ => ⟨⟨nD4, e4.fr2 nD4 f5⟩, fin _ (by rw [decide_eq_true hey, Bool.true_and])⟩
          · exact c_put hD4 ⟨hn4, by omega⟩ fun H5 f5 _ => ⟨⟨nD4, e4.fr2 nD4 f5⟩, fin _ (by rw [decide_eq_false hey, Bool.false_and])⟩
        · obtain ⟨nD4, e4⟩ := Iv
          rw [hal, List.take_length] at r4
          walk_at "z"
          refine s_any9 ((roadsF net x).map fun z => (decide (z.1 = y) && opn gs ⟨0, 0, z.2⟩)) (SqL.of hD4) (by rw [r4, List.map_map]; rfl) ?_
          have hmem : (y, r0.g) ∈ roadsF net x := by
            unfold roadsF
            exact List.mem_filterMap.mpr ⟨r0, (List.mem_filter.mp hr0).1, by rw [he0]; rfl⟩
          have hop : opn gs ⟨0, 0, r0.g⟩ = true := (List.mem_filter.mp hr0).2
          rw [show ((roadsF net x).map fun z => (decide (z.1 = y) && opn gs ⟨0, 0, z.2⟩)).any id = true from List.any_eq_true.mpr ⟨true, List.mem_map.mpr ⟨(y, r0.g), hmem, by rw [decide_eq_true rfl, hop]; rfl⟩, rfl⟩]
          walk_at "z"
          exact ⟨_, _, _, _, rfl, (e2.trans e3).trans e4⟩
      · obtain ⟨v6, v7, v8, v9, rfl, e2⟩ := h
        walk_at "z"
        exact k H2 e2

/-! what is handed in, as data -/
def encO (g : Option Int) : PyData := match g with
  | none => .none
  | some n => .int n
def encR (r : Road) : PyData := .tuple [.int r.a, .int r.b, encO r.g]
theorem road_dp {H : Hp} (v : V) (r : Road) (h : RoadAt K H v r) : Dp K H v (encR r) := by
  obtain ⟨p, rfl, hp⟩ := h
  refine .tup hp (.cons (.int _) (.cons (.int _) (.cons ?_ .nil)))
  cases r.g with
  | none => exact .non
  | some n => exact .int n
theorem ints_dp {H : Hp} : ∀ l : List Int, DpAll K H (l.map V.int) (l.map PyData.int)
  | [] => .nil
  | n :: l => .cons (.int n) (ints_dp l)
theorem lay_nums : ∀ l : List Int, PyData.canLayAll0 (l.map PyData.int) = true ∧ PyData.depthAll (l.map PyData.int) ≤ 2
  | [] => ⟨rfl, by decide⟩
  | n :: l => by
    obtain ⟨h1, h2⟩ := lay_nums l
    rw [List.map_cons]
    exact ⟨by unfold PyData.canLayAll0; rw [h1]; rfl, by unfold PyData.depthAll; unfold PyData.depth; omega⟩
theorem lay_road (r : Road) : PyData.canLay0 (encR r) = true ∧ PyData.depth (encR r) ≤ 4 := by
  obtain ⟨a, b, g⟩ := r
  cases g with
  | none => exact ⟨rfl, by simp only [encR, encO, PyData.depth, PyData.depthAll]; omega⟩
  | some n => exact ⟨rfl, by simp only [encR, encO, PyData.depth, PyData.depthAll]; omega⟩
theorem lay_net : ∀ l : List Road, PyData.canLayAll0 (l.map encR) = true ∧ PyData.depthAll (l.map encR) ≤ 4
  | [] => ⟨rfl, by decide⟩
  | r :: l => by
    obtain ⟨h1, h2⟩ := lay_net l
    obtain ⟨h3, h4⟩ := lay_road r
    rw [List.map_cons]
    exact ⟨by unfold PyData.canLayAll0; rw [h1, h3]; rfl, by unfold PyData.depthAll; omega⟩
theorem lay_handed (net : List Road) (gs : List Int) : SeqAt.shaped (.list [.list (net.map encR), .list (gs.map PyData.int)]) = true ∧ PyData.eqv (.list [.list (net.map encR), .list (gs.map PyData.int)]) (.list [.list (net.map encR), .list (gs.map PyData.int)]) = true := by
  obtain ⟨h1, h2⟩ := lay_net net
  obtain ⟨h3, h4⟩ := lay_nums gs
  have h5 : PyData.canLay0 (.list [.list (net.map encR), .list (gs.map PyData.int)]) = true := by
    simp only [PyData.canLay0, PyData.canLayAll0, h1, h3, Bool.and_true]
  refine ⟨?_, SeqAt.eqv_refl _ h5⟩
  unfold SeqAt.shaped
  rw [Bool.and_eq_true]
  refine ⟨h5, decide_eq_true ?_⟩
  simp only [PyData.depth, PyData.depthAll]
  omega
/-- the handed net and gates against the law's own -/
theorem s_neHanded {H : Hp} {Q : VK} {p q a b c d : Addr} {acc : List V} {net : List Road} {gs : List Int} (hp : SqL K H p [.ref a, .ref b]) (hq : SqL K H q [.ref c, .ref d]) (ha : SqL K H a acc) (hb : SqL K H b (gs.map V.int)) (hc : SqL K H c acc) (hd : SqL K H d (gs.map V.int))
    (hr : All2 (RoadAt K H) acc net) (k : Q (.bl false) H) : rNeD K (.ref p) (.ref q) H Q := by
  obtain ⟨h1, h2⟩ := lay_handed net gs
  have dr := all2_dp encR (road_dp (K := K) (H := H)) hr
  refine ⟨_, _, .lst hp (.cons (.lst ha dr) (.cons (.lst hb (ints_dp gs)) .nil)), .lst hq (.cons (.lst hc dr) (.cons (.lst hd (ints_dp gs)) .nil)), h1, h1, ?_⟩
  rw [h2]
  exact k
/-- two words against the same two -/
theorem s_neWords {H : Hp} {Q : VK} {p q : Addr} {z : Str} (ok : PyData.strOk z = true) (hp : SqL K H p [.str z, .str z]) (hq : SqL K H q [.str z, .str z]) (k : Q (.bl false) H) : rNeD K (.ref p) (.ref q) H Q := by
  have h5 : PyData.canLay0 (.list [.str z, .str z]) = true := by
    simp only [PyData.canLay0, PyData.canLayAll0, ok, Bool.and_true]
  have sh : SeqAt.shaped (.list [.str z, .str z]) = true := by
    unfold SeqAt.shaped
    rw [Bool.and_eq_true]
    exact ⟨h5, decide_eq_true (by simp only [PyData.depth, PyData.depthAll]; omega)⟩
  refine ⟨_, _, .lst hp (.cons (.str _) (.cons (.str _) .nil)), .lst hq (.cons (.str _) (.cons (.str _) .nil)), sh, sh, ?_⟩
  rw [SeqAt.eqv_refl _ h5]
  exact k
theorem use_likeB {H : Hp} {Q : VK} {E : XK} {x y : Bool} (e : x = y) (k : ∀ H', Ex H H' → Q (.bl true) H') : spLike K 1 ([.bl x, .bl y] ++ []) H Q E := by
  subst e
  exact ⟨_, _, .bool x, rfl, .bl x, .bl x, trivial, k⟩
theorem good_once {S : Bfs} (h : GoodB S) {p : Int} {d e : Nat} (h1 : (p, d) ∈ S) (h2 : (p, e) ∈ S) : d = e := by
  have nd := h.nd
  unfold keysB at nd
  clear h
  induction S with
  | nil => cases h1
  | cons z S ih =>
    rw [List.map_cons, List.nodup_cons] at nd
    rcases List.mem_cons.mp h1 with q1 | q1
    · rcases List.mem_cons.mp h2 with q2 | q2
      · rw [← q1] at q2
        cases q2
        rfl
      · exact absurd (List.mem_map.mpr ⟨_, q2, by rw [← q1]⟩) nd.1
    · rcases List.mem_cons.mp h2 with q2 | q2
      · exact absurd (List.mem_map.mpr ⟨_, q1, by rw [← q2]⟩) nd.1
      · exact ih q1 q2 nd.2

/-! the law -/
def Told0 (net : List Road) (gs : List Int) (one two : Int) (v : V) : Prop := (netOk net = true → (okP one && okP two) = true → v = .bl (!decide (two ∈ keysB (bfs (net.filter (opn gs)) one 8)))) ∧ (netOk net = false → v = .str "BadNet") ∧ (netOk net = true → (okP one && okP two) = false → v = .str "BadPlace")
def Told1 (K : PySem.W.Frag) (H : Hp) (net : List Road) (gs : List Int) (one two : Int) (v : V) : Prop := (netOk net = true → (okP one && okP two) = true → WayAt K H (net.filter (opn gs)) one two v) ∧ (netOk net = false → v = .str "BadNet") ∧ (netOk net = true → (okP one && okP two) = false → v = .str "BadPlace")
theorem sc_law : FnScope ["_law_script", "_law_bag_here", "_law_net_here", "_law_gates", "_law_handed", "_law_turn", "_law_one", "_law_two", "_law_word", "_law_found", "_law_steps", "_law_gate_here", "_law_way"] ["_law_script"] (defScope s_law) :=
  ⟨rfl, rfl, rfl, by decide +kernel, rfl, by decide +kernel, by decide +kernel⟩
theorem ok_law (T : Tx P K mg w) {f : Addr} {fd : FuncData} (F : Fun K "law" "law" s_law f fd) : FnOk P w K mg base CX0 7 f fd ["_law_script"] (spLaw K) := by
  refine F.ok sc_law (fun vs H Q E h => ?_) (fun cdv A outer s H vs Q E hr h => ?_)
  · obtain ⟨a, ns, rfl, _⟩ := h
    rfl
  · obtain ⟨a, ns, rfl, hS, hl, k⟩ := h
    refine ⟨_, (pss_cons (ps_set (i := 1) sc_law.nd rfl (Or.inr rfl) (pe_call (ok_l_bag T) (hr.mono (by decide)) rfl T.g_l_bag T.F_l_bag.kp T.b_l_bag .nil pass0 (pa_cons (pv 0) pa_nil))) (pss_cons (ps_set (i := 2) sc_law.nd rfl (Or.inl rfl) (pe_call (ok_l_net T) (hr.mono (by decide)) rfl T.g_l_net T.F_l_net.kp T.b_l_net .nil pass0 (pa_cons (pv 1) pa_nil))) (Evl.pss_cut (ps_if (pt_cmpR op_eq (pe_call (ok_l_pull T) (hr.mono (by decide)) rfl T.g_l_pull T.F_l_pull.kp T.b_l_pull .nil pass0 (pa_cons (pv 1) (pa_cons pe_int pa_nil))) pe_int (nomark _)) (pss_one (ps_set (i := 2) sc_law.nd rfl (Or.inl rfl) (pe_call (ok_l_bent_net T) (hr.mono (by decide)) rfl T.g_l_bent_net T.F_l_bent_net.kp T.b_l_bent_net .nil pass0 (pa_cons (pv 1) (pa_cons (pv 2) pa_nil))))) pss_nil) (pss_cons (ps_setLc (i := 3) (own := [("_law_gate_here", 11)]) (by rfl) sc_law.nd rfl rfl (sw_true rfl rfl rfl (by decide +kernel)) (pi_list (pe_lst (pa_cons pe_int (pa_cons pe_int (pa_cons pe_int (pa_cons pe_int (pa_cons pe_int (pa_cons pe_int (pa_cons pe_int (pa_cons pe_int (pa_cons pe_int (pa_cons (pe_un un_neg pe_int) pa_nil)))))))))))) (blkOk_by (own := [("_law_gate_here", 11)]) (N := ["_law_script", "_law_bag_here", "_law_net_here", "_law_gates", "_law_handed", "_law_turn", "_law_one", "_law_two", "_law_word", "_law_found", "_law_steps", "_law_gate_here", "_law_way"]) (sc := defScope s_law) (by decide +kernel)) (fun _ _ _ _ _ => (pg_name (i := 11) sc_law.nd rfl (Or.inl rfl))) (fun _ _ _ _ _ => (pts_one (pt_cmpR op_eq (pe_call (ok_l_pull T) (hr.mono (by decide)) rfl T.g_l_pull T.F_l_pull.kp T.b_l_pull .nil pass0 (pa_cons (pv 1) (pa_cons pe_int pa_nil))) pe_int (nomark _)))) (fun _ _ _ _ _ => (pv 11))) (pss_cons (ps_set (i := 4) sc_law.nd rfl (Or.inr rfl) (pe_lst (pa_cons (pe_callTy (r := rListOf K) cz_listOf (by rfl) T.z_list (by decide +kernel) (pa_cons (pv 2) pa_nil)) (pa_cons (pe_callTy (r := rListOf K) cz_listOf (by rfl) T.z_list (by decide +kernel) (pa_cons (pv 3) pa_nil)) pa_nil)))) (pss_cons (ps_for PassesOwn.never rfl (pi_range1 (by rfl) T.z_range (pa_cons pe_int pa_nil)) (pg_name (i := 5) sc_law.nd rfl (Or.inl rfl)) (pss_cons (ps_asg (pe_tup (pa_cons (pe_call (ok_l_place T) (hr.mono (by decide)) rfl T.g_l_place T.F_l_place.kp T.b_l_place .nil pass0 (pa_cons (pv 1) pa_nil)) (pa_cons (pe_call (ok_l_place T) (hr.mono (by decide)) rfl T.g_l_place T.F_l_place.kp T.b_l_place .nil pass0 (pa_cons (pv 1) pa_nil)) pa_nil))) (pg_tup (by rfl) (pgs_cons (pg_name (i := 6) sc_law.nd rfl (Or.inr rfl)) (pgs_cons (pg_name (i := 7) sc_law.nd rfl (Or.inr rfl)) pgs_nil)))) (Evl.pss_cut (ps_set (i := 8) sc_law.nd rfl (Or.inl rfl) (pe_ifExp (PW.pt (pw_and (pt_chain op_le op_le pe_int (pv 6) pe_int) (pw_and1 (pt_chain op_le op_le pe_int (pv 7) pe_int)))) pe_str pe_str)) (Evl.pss_cut (ps_if (pt_not (pt_val (pe_call (ok_l_net_ok T) (hr.mono (by decide)) rfl T.g_l_net_ok T.F_l_net_ok.kp T.b_l_net_ok .nil pass0 (pa_cons (pv 2) pa_nil)))) (pss_one (ps_set (i := 8) sc_law.nd rfl (Or.inl rfl) pe_str)) pss_nil) (pss_cons (ps_setLc (i := 9) (own := [("_law_way", 12)]) (by rfl) sc_law.nd rfl rfl (sw_true rfl rfl rfl (by decide +kernel)) (pi_range1 (by rfl) T.z_range (pa_cons pe_int pa_nil)) (blkOk_by (own := [("_law_way", 12)]) (N := ["_law_script", "_law_bag_here", "_law_net_here", "_law_gates", "_law_handed", "_law_turn", "_law_one", "_law_two", "_law_word", "_law_found", "_law_steps", "_law_gate_here", "_law_way"]) (sc := defScope s_law) (by decide +kernel)) (fun _ _ _ _ _ => (pg_name (i := 12) sc_law.nd rfl (Or.inl rfl))) (fun _ _ _ _ _ => pts_nil) (fun _ _ _ _ _ => (pe_call (ok_l_told T) (hr.mono (by decide)) rfl T.g_l_told T.F_l_told.kp T.b_l_told .nil pass0 (pa_cons (pv 12) (pa_cons (pe_ix (r := rIxL K) ix_list (pv 4) pe_int (fun _ _ => rfl)) (pa_cons (pe_ix (r := rIxL K) ix_list (pv 4) pe_int (fun _ _ => rfl)) (pa_cons (pv 6) (pa_cons (pv 7) pa_nil)))))))) (Evl.pss_cut (ps_if (pt_cmpR op_ne (pv 8) pe_str (nomark _)) (pss_one (ps_if (pt_cmpR (r := rNeD K) (op_neD hr.units) (pv 9) (pe_lst (pa_cons (pv 8) (pa_cons (pv 8) pa_nil))) (nomark _)) (pss_one (ps_ret pe_bl)) pss_nil)) (pss_cons (ps_set (i := 10) sc_law.nd rfl (Or.inl rfl) (pe_dget2 (hu_of hr) (pe_call (ok_l_far_off T) (hr.mono (by decide)) rfl T.g_l_far_off T.F_l_far_off.kp T.b_l_far_off .nil pass0 (pa_cons (pv 2) (pa_cons (pv 3) (pa_cons (pv 6) pa_nil)))) (pv 7) (pe_un un_neg pe_int) (by constructor <;> rfl))) (pss_cons (ps_if (PW.pt (pw_or (pt_not (pt_val (pe_call (ok_l_like T 1) (hr.mono (by decide)) rfl T.g_l_like T.F_l_like.kp T.b_l_like .nil pass0 (pa_cons (pe_ix (r := rIxL K) ix_list (pv 9) pe_int (fun _ _ => rfl)) (pa_cons (pe_cmpR op_lt (pv 10) pe_int (nomark _)) pa_nil))))) (pw_or1 (pt_cmpR op_ne (pe_cmpR op_isN1 (pe_ix (r := rIxL K) ix_list (pv 9) pe_int (fun _ _ => rfl)) pe_non (nomark _)) (pe_cmpR op_lt (pv 10) pe_int (nomark _)) (nomark _))))) (pss_one (ps_ret pe_bl)) pss_nil) (pss_one (ps_if (PW.pt (pw_and (pt_cmpR op_ge (pv 10) pe_int (nomark _)) (pw_and1 (pt_not (pt_val (pe_call (ok_l_way_ok T) (hr.mono (by decide)) rfl T.g_l_way_ok T.F_l_way_ok.kp T.b_l_way_ok .nil pass0 (pa_cons (pv 2) (pa_cons (pv 3) (pa_cons (pe_ix (r := rIxL K) ix_list (pv 9) pe_int (fun _ _ => rfl)) (pa_cons (pv 6) (pa_cons (pv 7) (pa_cons (pv 10) pa_nil)))))))))))) (pss_one (ps_ret pe_bl)) pss_nil))))) (pss_one (ps_if (pt_cmpR (r := rNeD K) (op_neD hr.units) (pv 4) (pe_lst (pa_cons (pv 2) (pa_cons (pv 3) pa_nil))) (nomark _)) (pss_one (ps_ret pe_bl)) pss_nil)))))))) (pss_one (ps_ret pe_bl)))))))), ?_⟩
    refine at_start (ρ' := [some _, none, none, none, none, none, none, none, none, none, none, none, none]) rfl ?_
    walk_at "z0"
    walk_at "z"
    refine ⟨a, ns, rfl, hS, hl, fun b c H1 nb nc e1 B => ?_⟩
    clear hS hl
    walk_at "z"
    refine ⟨b, c, rfl, B, fun NL acc net H2 nNL hNL ra hz sm B2 f2 => ?_⟩
    have hNb := B.neb nNL
    clear B
    refine s_cut (fun ρ H' => ∃ (NL : Addr) (acc : List V) (net : List Road), ρ = [some (.ref a), some (.ref b), some (.ref NL), none, none, none, none, none, none, none, none, none, none] ∧ NL ≠ b ∧ H' NL = some (.lst acc) ∧ All2 (RoadAt K H') acc net ∧ net.length ≤ 1000 ∧ (∀ r ∈ net, r.sm) ∧ Bag H' b c) ?_ fun ρ H3 h => ?_
    · walk_at "z"
      rename_i z H3 z0 z1 B3 f3
      have hN3 := f3 _ _ hNb hNL
      have ra3 := ra.mono fun _ _ ⟨q, g1, g2⟩ => (⟨q, g1, sqT_pull9 f3 B2 g2⟩ : RoadAt K H3 _ _)
      refine ite_dec (fun h1 => ?_) (fun h1 => ?_)
      · walk_at "z"
        refine ⟨b, c, NL, net, rfl, B3, ⟨acc, hN3, ra3⟩, hz, sm, hNb, fun D ac net' H4 nD hD r4 hz4 sm4 B4 f4 => ?_⟩
        walk_at "z"
        exact ⟨D, ac, net', rfl, B3.neb nD, hD, r4, hz4, sm4, B4⟩
      · walk_at "z"
        exact ⟨NL, acc, net, rfl, hNb, hN3, ra3, by omega, sm, B3⟩
    clear hNL ra hz sm B2 f2 hNb
    obtain ⟨NL, acc, net, rfl, hNb, hN3, ra3, hz, sm, B3⟩ := h
    walk_at "z"
    rename_i gl H4 ngl e4 hgl
    have hgb : gl ≠ b := B3.neb ngl
    have B4 := B3.ext e4
    refine c_list [.int 0, .int 1, .int 2, .int 3, .int 4, .int 5, .int 6, .int 7, .int 9, .int (-1)] (SqL.of hgl) (fun D H' => D ≠ b ∧ D ≠ c ∧ H4 D = none ∧ Bag H' b c ∧ Fr b H4 H') (fun D i ac H' => ∃ gs : List Int, ac = gs.map V.int) (fun D H' n e _ => ⟨⟨B4.neb n, B4.nec n, n, B4.ext e, e.fr b⟩, [], rfl⟩) (fun D H' Iv => SqL.of (Iv.2.2.2.2 _ _ hgb hgl)) (fun D i ac H5 x hx Iv hD hn r => ?_) (fun D ac H5 Iv hD hn r => ?_)
    · obtain ⟨n1, n2, nD, B5, f5⟩ := Iv
      obtain ⟨gs, rfl⟩ := r
      have hi : i < 10 := (List.getElem?_eq_some_iff.mp hx).1
      obtain ⟨n, rfl⟩ : ∃ n : Int, x = .int n := by
        have := List.mem_of_getElem? hx
        simp only [List.mem_cons, List.not_mem_nil, or_false] at this
        rcases this with rfl | rfl | rfl | rfl | rfl | rfl | rfl | rfl | rfl | rfl <;> exact ⟨_, rfl⟩
      walk_at "z"
      refine ⟨rfl, ?_⟩
      walk_at "z"
      rename_i z H6 z0 z1 B6 f6
      have hD6 := f6 _ _ n1 hD
      refine ite_dec (fun h1 => ?_) (fun h1 => ?_)
      · walk_at "z"
        refine c_put hD6 ⟨hn, by omega⟩ fun H7 f7 _ => ⟨⟨n1, n2, nD, B6.frs n1 n2 f7, fun a o na ha => f7 a o (ne_of_none ha nD) ((f5.trans f6) a o na ha)⟩, gs ++ [n], by rw [List.map_append]; rfl⟩
      · walk_at "z"
        exact c_skip hD6 hn ⟨n1, n2, nD, B6, f5.trans f6⟩ ⟨gs, rfl⟩
    · obtain ⟨n1, n2, nD, B5, f5⟩ := Iv
      obtain ⟨gs, rfl⟩ := r
      have hgz : gs.length ≤ 10 := by
        rw [List.length_map] at hn
        exact hn
      have hN5 := f5 _ _ hNb (e4 _ _ hN3)
      have r5 : All2 (RoadAt K H5) acc net := ra3.mono fun _ _ ⟨q, g1, g2⟩ => ⟨q, g1, sqT_pull9 f5 B4 (e4.sqT g2)⟩
      clear hgl hN3 ra3 B3 B4 f5
      walk_at "z"
      rename_i h1l H6 m1 e6 hh1 h2l H7 m2 e7 hh2 hl H8 m3 e8 hh
      have e58 := (e6.trans e7).trans e8
      have w1 : H8 NL = some (.lst acc) := e58 _ _ hN5
      have w2 : H8 D = some (.lst (gs.map V.int)) := e58 _ _ hD
      have w3 : H8 h1l = some (.lst acc) := e8 _ _ (e7 _ _ hh1)
      have w4 : H8 h2l = some (.lst (gs.map V.int)) := e8 _ _ hh2
      have w5 := roads_ex e58 r5
      have w6 := B5.ext e58
      have b1 : h1l ≠ b := B5.neb m1
      have b2 : h2l ≠ b := (B5.ext e6).neb m2
      have b3 : hl ≠ b := (B5.ext (e6.trans e7)).neb m3
      clear hN5 hD r5 hh1 hh2 B5
      refine l_range ⟨by decide, by decide⟩ (fun i σ H' => ∃ (v5 v6 v7 v8 v9 v10 : Option V), σ = [some (.ref a), some (.ref b), some (.ref NL), some (.ref D), some (.ref hl), v5, v6, v7, v8, v9, v10, none, none] ∧ H' NL = some (.lst acc) ∧ H' D = some (.lst (gs.map V.int)) ∧ H' h1l = some (.lst acc) ∧ H' h2l = some (.lst (gs.map V.int)) ∧ H' hl = some (.lst [.ref h1l, .ref h2l]) ∧ All2 (RoadAt K H') acc net ∧ Bag H' b c) ⟨_, _, _, _, _, _, rfl, w1, w2, w3, w4, hh, w5, w6⟩ (fun i σ H9 hi h => ?_) (fun σ H9 h => ?_)
      · clear w1 w2 w3 w4 w5 w6 hh
        obtain ⟨v5, v6, v7, v8, v9, v10, rfl, w1, w2, w3, w4, hh, w5, w6⟩ := h
        walk_at "z"
        rename_i one H10 o0 o1 C1 g1 two H11 p0 p1 C2 g2 tp H12 _ g3 _
        have s1 : Sm one := ⟨by omega, by omega⟩
        have s2 : Sm two := ⟨by omega, by omega⟩
        have F12 : Fr b H9 H12 := (g1.trans g2).trans (g3.fr b)
        have x1 := F12 _ _ hNb w1
        have x2 := F12 _ _ n1 w2
        have x3 := F12 _ _ b1 w3
        have x4 := F12 _ _ b2 w4
        have x5 := F12 _ _ b3 hh
        have x6 : All2 (RoadAt K H12) acc net := w5.mono fun _ _ ⟨q, h1, h2⟩ => ⟨q, h1, g3.sqT (sqT_pull9 g2 C1 (sqT_pull9 g1 w6 h2))⟩
        have x7 := C2.ext g3
        clear w1 w2 w3 w4 w5 w6 hh C1 C2 g1 g2 g3 F12
        refine s_cut (fun ρ H' => ρ = [some (.ref a), some (.ref b), some (.ref NL), some (.ref D), some (.ref hl), some (.int (i : Nat)), some (.int one), some (.int two), some (.str (if (okP one && okP two) = true then "" else "BadPlace")), v9, v10, none, none] ∧ H' = H12) ?_ fun ρ H13 h => ?_
        · walk_at "z"
          cases hoa : okP one with
          | false =>
            have hno : ¬ (0 ≤ one ∧ one ≤ 7) := fun z => by
              rw [okP_iff.mpr z] at hoa
              cases hoa
            by_cases h0 : 0 ≤ one
            · refine ite_pos h0 ?_
              walk_at "z"
              refine ite_neg (fun z => hno ⟨h0, z⟩) ?_
              walk_at "z"
              exact ⟨rfl, rfl⟩
            · refine ite_neg h0 ?_
              walk_at "z"
              exact ⟨rfl, rfl⟩
          | true =>
            obtain ⟨u0, u7⟩ := okP_iff.mp hoa
            refine ite_pos u0 ?_
            walk_at "z"
            refine ite_pos u7 ?_
            walk_at "z"
            cases hob : okP two with
            | false =>
              have hno : ¬ (0 ≤ two ∧ two ≤ 7) := fun z => by
                rw [okP_iff.mpr z] at hob
                cases hob
              by_cases h0 : 0 ≤ two
              · refine ite_pos h0 ?_
                walk_at "z"
                refine ite_neg (fun z => hno ⟨h0, z⟩) ?_
                walk_at "z"
                exact ⟨rfl, rfl⟩
              · refine ite_neg h0 ?_
                walk_at "z"
                exact ⟨rfl, rfl⟩
            | true =>
              obtain ⟨u0, u7⟩ := okP_iff.mp hob
              refine ite_pos u0 ?_
              walk_at "z"
              refine ite_pos u7 ?_
              walk_at "z"
              exact ⟨rfl, rfl⟩
        obtain ⟨rfl, rfl⟩ := h
        refine s_cut (fun ρ H' => ρ = [some (.ref a), some (.ref b), some (.ref NL), some (.ref D), some (.ref hl), some (.int (i : Nat)), some (.int one), some (.int two), some (.str (if netOk net = true then (if (okP one && okP two) = true then "" else "BadPlace") else "BadNet")), v9, v10, none, none] ∧ H' = H13) ?_ fun ρ H14 h => ?_
        · walk_at "z"
          refine ⟨NL, net, rfl, ⟨acc, SqL.of x1, x6⟩, hz, ?_⟩
          cases hok : netOk net with
          | true =>
            walk_at "z"
            exact ⟨rfl, rfl⟩
          | false =>
            walk_at "z"
            exact ⟨rfl, rfl⟩
        obtain ⟨rfl, rfl⟩ := h
        walk_at "z"
        refine c_range ⟨by decide, by decide⟩ (fun D2 H' => H14 D2 = none ∧ Ex H14 H') (fun D2 j ac H' => (j = 0 ∧ ac = []) ∨ (j = 1 ∧ ∃ v0, ac = [v0] ∧ Told0 net gs one two v0) ∨ (j = 2 ∧ ∃ v0 v1, ac = [v0, v1] ∧ Told0 net gs one two v0 ∧ Told1 K H' net gs one two v1)) (fun D2 H' n e _ => ⟨⟨n, e⟩, .inl ⟨rfl, rfl⟩⟩) (fun D2 j ac H15 hj Iv hD2 hn r => ?_) (fun D2 ac H15 Iv hD2 hn r => ?_)
        · obtain ⟨nD2, e15⟩ := Iv
          walk_at "z"
          refine ⟨rfl, ?_⟩
          walk_at "z"
          have hj2 : j = 0 ∨ j = 1 := by omega
          rcases hj2 with rfl | rfl
          · have ra0 : ac = [] := by
              rcases r with ⟨_, z⟩ | ⟨z, _⟩ | ⟨z, _⟩
              · exact z
              · cases z
              · cases z
            subst ra0
            refine ⟨0, h1l, h2l, net, gs, one, two, rfl, .inl rfl, ⟨acc, SqL.of (e15 _ _ x3), roads_ex e15 x6⟩, sm, hz, SqL.of (e15 _ _ x4), by omega, s1, s2, fun o1 o2 o3 _ H' e => ?_, fun _ _ _ z => absurd z (by decide), fun z H' e => ?_, fun z1 z2 H' e => ?_⟩
            · exact c_put (e _ _ hD2) ⟨hn, by omega⟩ fun H7 f7 _ => ⟨⟨nD2, (e15.trans e).fr2 nD2 f7⟩, .inr (.inl ⟨rfl, _, rfl, fun _ _ => rfl, fun q => (by rw [o1] at q; cases q), fun _ q => (by rw [o2, o3] at q; cases q)⟩)⟩
            · exact c_put (e _ _ hD2) ⟨hn, by omega⟩ fun H7 f7 _ => ⟨⟨nD2, (e15.trans e).fr2 nD2 f7⟩, .inr (.inl ⟨rfl, _, rfl, fun q => (by rw [z] at q; cases q), fun _ => rfl, fun q => (by rw [z] at q; cases q)⟩)⟩
            · exact c_put (e _ _ hD2) ⟨hn, by omega⟩ fun H7 f7 _ => ⟨⟨nD2, (e15.trans e).fr2 nD2 f7⟩, .inr (.inl ⟨rfl, _, rfl, fun _ q => (by rw [z2] at q; cases q), fun q => (by rw [z1] at q; cases q), fun _ _ => rfl⟩)⟩
          · obtain ⟨v0, rfl, t0⟩ : ∃ v0, ac = [v0] ∧ Told0 net gs one two v0 := by
              rcases r with ⟨z, _⟩ | ⟨_, z⟩ | ⟨z, _⟩
              · cases z
              · exact z
              · cases z
            refine ⟨1, h1l, h2l, net, gs, one, two, rfl, .inr rfl, ⟨acc, SqL.of (e15 _ _ x3), roads_ex e15 x6⟩, sm, hz, SqL.of (e15 _ _ x4), by omega, s1, s2, fun _ _ _ z => absurd z (by decide), fun o1 o2 o3 _ v H' e hw hf => ?_, fun z H' e => ?_, fun z1 z2 H' e => ?_⟩
            · refine c_put (e _ _ hD2) ⟨hn, by omega⟩ fun H7 f7 _ => ⟨⟨nD2, (e15.trans e).fr2 nD2 f7⟩, .inr (.inr ⟨rfl, v0, v, rfl, t0, fun _ _ => ?_, fun q => (by rw [o1] at q; cases q), fun _ q => (by rw [o2, o3] at q; cases q)⟩)⟩
              rcases hw with hw | ⟨d, q, pl, g1, g2, g3, g4⟩
              · exact .inl hw
              · refine .inr ⟨d, q, pl, g1, g2, f7 _ _ (fun z => ?_) g3, g4⟩
                have := hf q g2
                rw [z, hD2] at this
                cases this
            · exact c_put (e _ _ hD2) ⟨hn, by omega⟩ fun H7 f7 _ => ⟨⟨nD2, (e15.trans e).fr2 nD2 f7⟩, .inr (.inr ⟨rfl, v0, _, rfl, t0, fun q => (by rw [z] at q; cases q), fun _ => rfl, fun q => (by rw [z] at q; cases q)⟩)⟩
            · exact c_put (e _ _ hD2) ⟨hn, by omega⟩ fun H7 f7 _ => ⟨⟨nD2, (e15.trans e).fr2 nD2 f7⟩, .inr (.inr ⟨rfl, v0, _, rfl, t0, fun _ q => (by rw [z2] at q; cases q), fun q => (by rw [z1] at q; cases q), fun _ _ => rfl⟩)⟩
        · obtain ⟨nD2, e15⟩ := Iv
          have r2 : ∃ v0 v1, ac = [v0, v1] ∧ Told0 net gs one two v0 ∧ Told1 K H15 net gs one two v1 := by
            rcases r with ⟨z, _⟩ | ⟨z, _⟩ | ⟨_, z⟩
            · cases z
            · cases z
            · exact z
          obtain ⟨v0, v1, rfl, t0, t1⟩ := r2
          have y1 := e15 _ _ x1
          have y2 := e15 _ _ x2
          have y3 := e15 _ _ x3
          have y4 := e15 _ _ x4
          have y5 := e15 _ _ x5
          have y6 := roads_ex e15 x6
          have y7 := x7.ext e15
          clear x1 x2 x3 x4 x5 x6 x7 r hn
          refine s_cut (fun ρ H' => ∃ v10 : Option V, ρ = [some (.ref a), some (.ref b), some (.ref NL), some (.ref D), some (.ref hl), some (.int (i : Nat)), some (.int one), some (.int two), some (.str (if netOk net = true then (if (okP one && okP two) = true then "" else "BadPlace") else "BadNet")), some (.ref D2), v10, none, none] ∧ Ex H15 H') ?_ fun ρ H16 h => ?_
          · cases hok : netOk net with
            | false =>
              have q0 := t0.2.1 hok
              have q1 := t1.2.1 hok
              subst q0
              subst q1
              walk_at "z"
              rename_i p H16 np e16 hp
              refine s_neWords (z := "BadNet") (by decide +kernel) (SqL.of (e16 _ _ hD2)) (SqL.of hp) ?_
              walk_at "z"
              exact ⟨_, rfl, e16⟩
            | true =>
              cases hop : (okP one && okP two) with
              | false =>
                have q0 := t0.2.2 hok hop
                have q1 := t1.2.2 hok hop
                subst q0
                subst q1
                walk_at "z"
                rename_i p H16 np e16 hp
                refine s_neWords (z := "BadPlace") (by decide +kernel) (SqL.of (e16 _ _ hD2)) (SqL.of hp) ?_
                walk_at "z"
                exact ⟨_, rfl, e16⟩
              | true =>
                have q0 := t0.1 hok hop
                have q1 := t1.1 hok hop
                subst q0
                walk_at "z"
                obtain ⟨ho1, ho2⟩ := Bool.and_eq_true_iff.mp hop
                have hnet : NetAt K H15 NL net := ⟨acc, SqL.of y1, y6⟩
                refine s_tDGet2 ?_
                walk_at "z"
                refine ⟨NL, D, net, gs, one, rfl, hnet, hz, SqL.of y2, hok, ho1, fun F kvs H16 nF e16 FI => ?_⟩
                refine ⟨F, rfl, .inl ⟨_, .inl FI.dc⟩, ?_⟩
                walk_at "z"
                refine s_dget2I FI.dc ?_
                have okrs : ∀ x ∈ net.filter (opn gs), x.ok = true := fun x hx => by
                  have hok2 := hok
                  unfold netOk at hok2
                  rw [Bool.and_eq_true] at hok2
                  exact List.all_eq_true.mp hok2.2 x (List.mem_filter.mp hx).1
                have good := bfs_good (rs := net.filter (opn gs)) ho1 okrs 8
                have hkey := FI.keys two
                rcases q1 with ⟨hno, rfl⟩ | ⟨d, q, pl, hm, rfl, hq, hpath⟩
                · have hv : valV kvs (.inl two) = none := by
                    cases hv : valV kvs (.inl two) with
                    | none => rfl
                    | some v =>
                      rw [hv] at hkey
                      exact absurd (hkey.mp rfl) hno
                  rw [decide_eq_false hno] at hD2
                  rw [hv]
                  dsimp only [Option.getD]
                  have hD3 := e16 _ _ hD2
                  walk_at "z"
                  refine use_likeB (by decide) fun H17 e17 => ?_
                  have hD4 := e17 _ _ hD3
                  walk_at "z"
                  exact ⟨_, rfl, e16.trans e17⟩
                · have hv : valV kvs (.inl two) = some (.int (d : Nat)) := FI.val two d hm
                  have hin : two ∈ keysB (bfs (net.filter (opn gs)) one 8) := List.mem_map.mpr ⟨(two, d), hm, rfl⟩
                  rw [decide_eq_true hin] at hD2
                  rw [hv]
                  dsimp only [Option.getD]
                  have hD3 := e16 _ _ hD2
                  walk_at "z"
                  refine use_likeB (by rw [decide_eq_false (by omega)]; rfl) fun H17 e17 => ?_
                  have hD4 := e17 _ _ hD3
                  have E17 := e16.trans e17
                  walk_at "z"
                  refine ⟨NL, D, q, net, gs, pl, one, two, d, rfl, hnet.ex E17, hz, E17.sqL (SqL.of y2), E17 _ _ hq, hpath, ?_, fun H18 e18 => ?_⟩
                  · have := bfs_d (net.filter (opn gs)) one 8 (two, d) hm
                    dsimp only at this
                    omega
                  · walk_at "z"
                    exact ⟨_, rfl, E17.trans e18⟩
          · obtain ⟨v10', rfl, e16⟩ := h
            walk_at "z"
            rename_i p H17 np e17 hp
            have E := e16.trans e17
            refine s_neHanded (SqL.of (E _ _ y5)) (SqL.of hp) (SqL.of (E _ _ y3)) (SqL.of (E _ _ y4)) (SqL.of (E _ _ y1)) (SqL.of (E _ _ y2)) (roads_ex E y6) ?_
            walk_at "z"
            exact ⟨_, _, _, _, _, _, rfl, E _ _ y1, E _ _ y2, E _ _ y3, E _ _ y4, E _ _ y5, roads_ex E y6, y7.ext E⟩
      · obtain ⟨v5, v6, v7, v8, v9, v10, rfl, _⟩ := h
        walk_at "z"
        exact k _

end
theorem all_mk {l : PySem.W.OpenLaw} {w : World} {K : PySem.W.Frag} {h : Heap} {mg : Str → Option Value} {fa f0 f1 f2 f3 f4 f5 f6 f7 f8 f9 f10 f11 f12 f13 f14 f15 f16 f17 f18 f19 f20 fL : Addr} (X : K.In h) (G : h.Ns mainGlobals mg) (hfa : mg "law" = some (.ref fa))
    {od0 an0 od1 an1 od2 an2 od3 an3 od4 an4 od5 an5 od6 an6 od7 an7 od8 an8 od9 an9 od10 an10 od11 an11 od12 an12 od13 an13 od14 an14 od15 an15 od16 an16 od17 an17 od18 an18 od19 an19 od20 an20 odL anL : Option Addr} {sl0 sl1 sl2 sl3 sl4 sl5 sl6 sl7 sl8 sl9 sl10 sl11 sl12 sl13 sl14 sl15 sl16 sl17 sl18 sl19 sl20 slL : Array (Option Value)} {oc0 kV0 dc0 pm0 cd0 ct0 oc1 kV1 dc1 pm1 cd1 ct1 oc2 kV2 dc2 pm2 cd2 ct2 oc3 kV3 dc3 pm3 cd3 ct3 oc4 kV4 dc4 pm4 cd4 ct4 oc5 kV5 dc5 pm5 cd5 ct5 oc6 kV6 dc6 pm6 cd6 ct6 oc7 kV7 dc7 pm7 cd7 ct7 oc8 kV8 dc8 pm8 cd8 ct8 oc9 kV9 dc9 pm9 cd9 ct9 oc10 kV10 dc10 pm10 cd10 ct10 oc11 kV11 dc11 pm11 cd11 ct11 oc12 kV12 dc12 pm12 cd12 ct12 oc13 kV13 dc13 pm13 cd13 ct13 oc14 kV14 dc14 pm14 cd14 ct14 oc15 kV15 dc15 pm15 cd15 ct15 oc16 kV16 dc16 pm16 cd16 ct16 oc17 kV17 dc17 pm17 cd17 ct17 oc18 kV18 dc18 pm18 cd18 ct18 oc19 kV19 dc19 pm19 cd19 ct19 oc20 kV20 dc20 pm20 cd20 ct20 ocL kVL dcL pmL cdL ctL : Value} {t_MOST_ROADS : Tok}
    (a0 : PySem.W.nsIn K mainGlobals "is_number" = some (some (.ref f0)))
    (l0 : K.lookup f0 = some ⟨oc0, od0, .func (PySem.W.fnOf "is_number" "is_number" (defArgs s_p_is_number) (defBody s_p_is_number) (defScope s_p_is_number) .none kV0 dc0 pm0 an0 cd0 ct0), sl0⟩)
    (c0 : PySem.W.codeIn K cd0 "is_number" = true) (k0 : PySem.W.keepIn K (.ref f0) = true)
    (a1 : PySem.W.nsIn K mainGlobals "is_good" = some (some (.ref f1)))
    (l1 : K.lookup f1 = some ⟨oc1, od1, .func (PySem.W.fnOf "is_good" "is_good" (defArgs s_p_is_good) (defBody s_p_is_good) (defScope s_p_is_good) .none kV1 dc1 pm1 an1 cd1 ct1), sl1⟩)
    (c1 : PySem.W.codeIn K cd1 "is_good" = true) (k1 : PySem.W.keepIn K (.ref f1) = true)
    (a2 : PySem.W.nsIn K mainGlobals "need_net" = some (some (.ref f2)))
    (l2 : K.lookup f2 = some ⟨oc2, od2, .func (PySem.W.fnOf "need_net" "need_net" (defArgs s_p_need_net) (defBody s_p_need_net) (defScope s_p_need_net) .none kV2 dc2 pm2 an2 cd2 ct2), sl2⟩)
    (c2 : PySem.W.codeIn K cd2 "need_net" = true) (k2 : PySem.W.keepIn K (.ref f2) = true)
    (a3 : PySem.W.nsIn K mainGlobals "need_place" = some (some (.ref f3)))
    (l3 : K.lookup f3 = some ⟨oc3, od3, .func (PySem.W.fnOf "need_place" "need_place" (defArgs s_p_need_place) (defBody s_p_need_place) (defScope s_p_need_place) .none kV3 dc3 pm3 an3 cd3 ct3), sl3⟩)
    (c3 : PySem.W.codeIn K cd3 "need_place" = true) (k3 : PySem.W.keepIn K (.ref f3) = true)
    (a4 : PySem.W.nsIn K mainGlobals "far_end" = some (some (.ref f4)))
    (l4 : K.lookup f4 = some ⟨oc4, od4, .func (PySem.W.fnOf "far_end" "far_end" (defArgs s_p_far_end) (defBody s_p_far_end) (defScope s_p_far_end) .none kV4 dc4 pm4 an4 cd4 ct4), sl4⟩)
    (c4 : PySem.W.codeIn K cd4 "far_end" = true) (k4 : PySem.W.keepIn K (.ref f4) = true)
    (a5 : PySem.W.nsIn K mainGlobals "way_round" = some (some (.ref f5)))
    (l5 : K.lookup f5 = some ⟨oc5, od5, .func (PySem.W.fnOf "way_round" "way_round" (defArgs s_p_way_round) (defBody s_p_way_round) (defScope s_p_way_round) .none kV5 dc5 pm5 an5 cd5 ct5), sl5⟩)
    (c5 : PySem.W.codeIn K cd5 "way_round" = true) (k5 : PySem.W.keepIn K (.ref f5) = true)
    (a6 : PySem.W.nsIn K mainGlobals "barred" = some (some (.ref f6)))
    (l6 : K.lookup f6 = some ⟨oc6, od6, .func (PySem.W.fnOf "barred" "barred" (defArgs s_p_barred) (defBody s_p_barred) (defScope s_p_barred) .none kV6 dc6 pm6 an6 cd6 ct6), sl6⟩)
    (c6 : PySem.W.codeIn K cd6 "barred" = true) (k6 : PySem.W.keepIn K (.ref f6) = true)
    (a7 : PySem.W.nsIn K mainGlobals "_law_bag" = some (some (.ref f7)))
    (l7 : K.lookup f7 = some ⟨oc7, od7, .func (PySem.W.fnOf "_law_bag" "_law_bag" (defArgs s_l_bag) (defBody s_l_bag) (defScope s_l_bag) .none kV7 dc7 pm7 an7 cd7 ct7), sl7⟩)
    (c7 : PySem.W.codeIn K cd7 "_law_bag" = true) (k7 : PySem.W.keepIn K (.ref f7) = true)
    (a8 : PySem.W.nsIn K mainGlobals "_law_pull" = some (some (.ref f8)))
    (l8 : K.lookup f8 = some ⟨oc8, od8, .func (PySem.W.fnOf "_law_pull" "_law_pull" (defArgs s_l_pull) (defBody s_l_pull) (defScope s_l_pull) .none kV8 dc8 pm8 an8 cd8 ct8), sl8⟩)
    (c8 : PySem.W.codeIn K cd8 "_law_pull" = true) (k8 : PySem.W.keepIn K (.ref f8) = true)
    (a9 : PySem.W.nsIn K mainGlobals "_law_like" = some (some (.ref f9)))
    (l9 : K.lookup f9 = some ⟨oc9, od9, .func (PySem.W.fnOf "_law_like" "_law_like" (defArgs s_l_like) (defBody s_l_like) (defScope s_l_like) .none kV9 dc9 pm9 an9 cd9 ct9), sl9⟩)
    (c9 : PySem.W.codeIn K cd9 "_law_like" = true) (k9 : PySem.W.keepIn K (.ref f9) = true)
    (a10 : PySem.W.nsIn K mainGlobals "_law_far" = some (some (.ref f10)))
    (l10 : K.lookup f10 = some ⟨oc10, od10, .func (PySem.W.fnOf "_law_far" "_law_far" (defArgs s_l_far) (defBody s_l_far) (defScope s_l_far) .none kV10 dc10 pm10 an10 cd10 ct10), sl10⟩)
    (c10 : PySem.W.codeIn K cd10 "_law_far" = true) (k10 : PySem.W.keepIn K (.ref f10) = true)
    (a11 : PySem.W.nsIn K mainGlobals "_law_gate" = some (some (.ref f11)))
    (l11 : K.lookup f11 = some ⟨oc11, od11, .func (PySem.W.fnOf "_law_gate" "_law_gate" (defArgs s_l_gate) (defBody s_l_gate) (defScope s_l_gate) .none kV11 dc11 pm11 an11 cd11 ct11), sl11⟩)
    (c11 : PySem.W.codeIn K cd11 "_law_gate" = true) (k11 : PySem.W.keepIn K (.ref f11) = true)
    (a12 : PySem.W.nsIn K mainGlobals "_law_num" = some (some (.ref f12)))
    (l12 : K.lookup f12 = some ⟨oc12, od12, .func (PySem.W.fnOf "_law_num" "_law_num" (defArgs s_l_num) (defBody s_l_num) (defScope s_l_num) .none kV12 dc12 pm12 an12 cd12 ct12), sl12⟩)
    (c12 : PySem.W.codeIn K cd12 "_law_num" = true) (k12 : PySem.W.keepIn K (.ref f12) = true)
    (a13 : PySem.W.nsIn K mainGlobals "_law_net" = some (some (.ref f13)))
    (l13 : K.lookup f13 = some ⟨oc13, od13, .func (PySem.W.fnOf "_law_net" "_law_net" (defArgs s_l_net) (defBody s_l_net) (defScope s_l_net) .none kV13 dc13 pm13 an13 cd13 ct13), sl13⟩)
    (c13 : PySem.W.codeIn K cd13 "_law_net" = true) (k13 : PySem.W.keepIn K (.ref f13) = true)
    (a14 : PySem.W.nsIn K mainGlobals "_law_net_ok" = some (some (.ref f14)))
    (l14 : K.lookup f14 = some ⟨oc14, od14, .func (PySem.W.fnOf "_law_net_ok" "_law_net_ok" (defArgs s_l_net_ok) (defBody s_l_net_ok) (defScope s_l_net_ok) .none kV14 dc14 pm14 an14 cd14 ct14), sl14⟩)
    (c14 : PySem.W.codeIn K cd14 "_law_net_ok" = true) (k14 : PySem.W.keepIn K (.ref f14) = true)
    (a15 : PySem.W.nsIn K mainGlobals "_law_bent_net" = some (some (.ref f15)))
    (l15 : K.lookup f15 = some ⟨oc15, od15, .func (PySem.W.fnOf "_law_bent_net" "_law_bent_net" (defArgs s_l_bent_net) (defBody s_l_bent_net) (defScope s_l_bent_net) .none kV15 dc15 pm15 an15 cd15 ct15), sl15⟩)
    (c15 : PySem.W.codeIn K cd15 "_law_bent_net" = true) (k15 : PySem.W.keepIn K (.ref f15) = true)
    (a16 : PySem.W.nsIn K mainGlobals "_law_roads" = some (some (.ref f16)))
    (l16 : K.lookup f16 = some ⟨oc16, od16, .func (PySem.W.fnOf "_law_roads" "_law_roads" (defArgs s_l_roads) (defBody s_l_roads) (defScope s_l_roads) .none kV16 dc16 pm16 an16 cd16 ct16), sl16⟩)
    (c16 : PySem.W.codeIn K cd16 "_law_roads" = true) (k16 : PySem.W.keepIn K (.ref f16) = true)
    (a17 : PySem.W.nsIn K mainGlobals "_law_place" = some (some (.ref f17)))
    (l17 : K.lookup f17 = some ⟨oc17, od17, .func (PySem.W.fnOf "_law_place" "_law_place" (defArgs s_l_place) (defBody s_l_place) (defScope s_l_place) .none kV17 dc17 pm17 an17 cd17 ct17), sl17⟩)
    (c17 : PySem.W.codeIn K cd17 "_law_place" = true) (k17 : PySem.W.keepIn K (.ref f17) = true)
    (a18 : PySem.W.nsIn K mainGlobals "_law_told" = some (some (.ref f18)))
    (l18 : K.lookup f18 = some ⟨oc18, od18, .func (PySem.W.fnOf "_law_told" "_law_told" (defArgs s_l_told) (defBody s_l_told) (defScope s_l_told) .none kV18 dc18 pm18 an18 cd18 ct18), sl18⟩)
    (c18 : PySem.W.codeIn K cd18 "_law_told" = true) (k18 : PySem.W.keepIn K (.ref f18) = true)
    (a19 : PySem.W.nsIn K mainGlobals "_law_far_off" = some (some (.ref f19)))
    (l19 : K.lookup f19 = some ⟨oc19, od19, .func (PySem.W.fnOf "_law_far_off" "_law_far_off" (defArgs s_l_far_off) (defBody s_l_far_off) (defScope s_l_far_off) .none kV19 dc19 pm19 an19 cd19 ct19), sl19⟩)
    (c19 : PySem.W.codeIn K cd19 "_law_far_off" = true) (k19 : PySem.W.keepIn K (.ref f19) = true)
    (a20 : PySem.W.nsIn K mainGlobals "_law_way_ok" = some (some (.ref f20)))
    (l20 : K.lookup f20 = some ⟨oc20, od20, .func (PySem.W.fnOf "_law_way_ok" "_law_way_ok" (defArgs s_l_way_ok) (defBody s_l_way_ok) (defScope s_l_way_ok) .none kV20 dc20 pm20 an20 cd20 ct20), sl20⟩)
    (c20 : PySem.W.codeIn K cd20 "_law_way_ok" = true) (k20 : PySem.W.keepIn K (.ref f20) = true)
    (aL : PySem.W.nsIn K mainGlobals "law" = some (some (.ref fL)))
    (lL : K.lookup fL = some ⟨ocL, odL, .func (PySem.W.fnOf "law" "law" (defArgs s_law) (defBody s_law) (defScope s_law) .none kVL dcL pmL anL cdL ctL), slL⟩)
    (cL : PySem.W.codeIn K cdL "law" = true) (kL : PySem.W.keepIn K (.ref fL) = true)
    (z_len : PySem.W.nsIn K mainGlobals "len" = some none)
    (z_isinstance : PySem.W.nsIn K mainGlobals "isinstance" = some none)
    (z_tuple : PySem.W.nsIn K mainGlobals "tuple" = some none)
    (z_list : PySem.W.nsIn K mainGlobals "list" = some none)
    (z_bool : PySem.W.nsIn K mainGlobals "bool" = some none)
    (z_range : PySem.W.nsIn K mainGlobals "range" = some none)
    (z_int : PySem.W.nsIn K mainGlobals "int" = some none)
    (z_all : PySem.W.nsIn K mainGlobals "all" = some none)
    (z_any : PySem.W.nsIn K mainGlobals "any" = some none)
    (k_MOST_ROADS : PySem.W.nsIn K mainGlobals "MOST_ROADS" = some (some (.int 12 t_MOST_ROADS)))
    {B_BOUNDS : Addr} {es_BOUNDS : Array DictEntry} {en_BOUNDS : Nat} {tk0_BOUNDS_gate tk1_BOUNDS_gate tk0_BOUNDS_place tk1_BOUNDS_place : Tok}
    {t_BOUNDS_gate : Addr} {to_BOUNDS_gate : Option Addr} {tn_BOUNDS_gate : Nat} {ts_BOUNDS_gate : Array (Option Value)}
    {t_BOUNDS_place : Addr} {to_BOUNDS_place : Option Addr} {tn_BOUNDS_place : Nat} {ts_BOUNDS_place : Array (Option Value)}
    (a_BOUNDS : PySem.W.nsIn K mainGlobals "BOUNDS" = some (some (.ref B_BOUNDS)))
    (ld_BOUNDS : K.lookup B_BOUNDS = some ⟨.type "dict", none, .dict es_BOUNDS en_BOUNDS, #[]⟩)
    (kl_BOUNDS : PySem.W.KeysLit w.params es_BOUNDS.toList)
    (ek_BOUNDS_gate : PySem.W.nsIn K B_BOUNDS "gate" = some (some (.ref t_BOUNDS_gate)))
    (lt_BOUNDS_gate : K.lookup t_BOUNDS_gate = some ⟨.type "tuple", to_BOUNDS_gate, .seq #[.int 0 tk0_BOUNDS_gate, .int 7 tk1_BOUNDS_gate] tn_BOUNDS_gate, ts_BOUNDS_gate⟩)
    (ek_BOUNDS_place : PySem.W.nsIn K B_BOUNDS "place" = some (some (.ref t_BOUNDS_place)))
    (lt_BOUNDS_place : K.lookup t_BOUNDS_place = some ⟨.type "tuple", to_BOUNDS_place, .seq #[.int 0 tk0_BOUNDS_place, .int 7 tk1_BOUNDS_place] tn_BOUNDS_place, ts_BOUNDS_place⟩)
    (z_super : PySem.W.nsIn K mainGlobals "super" = some none)
    (htop : (l.prog.main.scope.names.lookup ("super" : Str)).isSome = false)
    (xst : PySem.W.nsIn K cStatics "thirdparty.any" = some none)
    (xsp : PySem.W.specialIn K (.builtin "object.__class__") "__get__" = some (some (.builtin "getset_descriptor.__get__")))
    (xtk : PySem.W.takesIn K (.builtin "object.__class__") = some true)
    {C_PikeError : Addr}
    (a_PikeError : PySem.W.nsIn K mainGlobals "PikeError" = some (some (.ref C_PikeError)))
    {C_BadNet : Addr}
    (a_BadNet : PySem.W.nsIn K mainGlobals "BadNet" = some (some (.ref C_BadNet)))
    {C_BadPlace : Addr}
    (a_BadPlace : PySem.W.nsIn K mainGlobals "BadPlace" = some (some (.ref C_BadPlace)))
    {f_c_PikeError_init cda_c_PikeError_init cc_c_PikeError_init : Addr} {od_c_PikeError_init od2_c_PikeError_init od3_c_PikeError_init an_c_PikeError_init : Option Addr} {sl_c_PikeError_init sl2_c_PikeError_init sl3_c_PikeError_init : Array (Option Value)} {oc_c_PikeError_init oc2_c_PikeError_init oc3_c_PikeError_init kV_c_PikeError_init dc_c_PikeError_init pm_c_PikeError_init ct_c_PikeError_init : Value} {vs_c_PikeError_init : Array Value} {fl_c_PikeError_init : Str} {tf_c_PikeError_init : Tok}
    (at_c_PikeError_init : PySem.W.findIn K (.ref C_PikeError) "__init__" = some (some (.ref f_c_PikeError_init)))
    (lk_c_PikeError_init : K.lookup f_c_PikeError_init = some ⟨oc_c_PikeError_init, od_c_PikeError_init, .func (PySem.W.ksFn "__init__" "PikeError.__init__" (defArgs s_c_PikeError_init) (defBody s_c_PikeError_init) (defScope s_c_PikeError_init) .none kV_c_PikeError_init dc_c_PikeError_init pm_c_PikeError_init an_c_PikeError_init (.ref cda_c_PikeError_init) ct_c_PikeError_init cc_c_PikeError_init), sl_c_PikeError_init⟩)
    (cdk_c_PikeError_init : PySem.W.codeIn K (.ref cda_c_PikeError_init) "PikeError.__init__" = true)
    (kf_c_PikeError_init : PySem.W.keepIn K (.ref f_c_PikeError_init) = true)
    (tyf_c_PikeError_init : PySem.W.typeIn K (.ref f_c_PikeError_init) = some (.type "function"))
    (fnf_c_PikeError_init : PySem.W.fnIn K f_c_PikeError_init = true)
    (lc_c_PikeError_init : K.lookup cc_c_PikeError_init = some ⟨oc2_c_PikeError_init, od2_c_PikeError_init, .cell (some (.ref C_PikeError)), sl2_c_PikeError_init⟩)
    (ld_c_PikeError_init : K.lookup cda_c_PikeError_init = some ⟨oc3_c_PikeError_init, od3_c_PikeError_init, .fields vs_c_PikeError_init, sl3_c_PikeError_init⟩)
    (hv_c_PikeError_init : vs_c_PikeError_init[2]? = some (.str fl_c_PikeError_init tf_c_PikeError_init))
    (hf_c_PikeError_init : ((l.prog.main.file : Str) == fl_c_PikeError_init) = true)
    {nm_BadNet q_BadNet : Str} {N_BadNet : Addr} {bs_BadNet bm_BadNet sub_BadNet : List Value} {sn_BadNet : List Str} {ab_BadNet : Bool} {col_BadNet : Option Bool} {dd_BadNet : Option Addr} {k0_BadNet k1_BadNet k2_BadNet k3_BadNet k5_BadNet : Option Value} {tn_BadNet : Tok}
    (cl_BadNet : K.lookup C_BadNet = some (excClassObj nm_BadNet q_BadNet C_BadNet N_BadNet bs_BadNet bm_BadNet true sn_BadNet sub_BadNet ab_BadNet col_BadNet dd_BadNet k0_BadNet k1_BadNet k2_BadNet k3_BadNet k5_BadNet "ValueError.__new__"))
    (rf_BadNet : PySem.ZEX.refsX false bm_BadNet = true)
    (kn_BadNet : k2_BadNet = some (.str "BadNet" tn_BadNet))
    (sa_BadNet : PySem.W.findIn K (.ref C_BadNet) "__setattr__" = some (some (.builtin "object.__setattr__")))
    (ex_BadNet : PySem.W.subIn K (.ref C_BadNet) (.type "BaseException") = some true)
    (ty_BadNet : PySem.W.typeIn K (.ref C_BadNet) = some (.type "type"))
    (kp_BadNet : PySem.W.keepIn K (.ref C_BadNet) = true)
    (ga_BadNet : PySem.W.findIn K (.ref C_BadNet) "__getattribute__" = some (some (.builtin "BaseException.__getattribute__")))
    (gg_BadNet : PySem.W.findIn K (.ref C_BadNet) "__getattr__" = some none)
    (ic_BadNet : PySem.W.isClsIn K C_BadNet = true)
    (ca_BadNet : PySem.W.findIn K (.ref C_BadNet) "__class__" = some (some (.builtin "object.__class__")))
    (ob_BadNet : PySem.W.mroIn K C_BadNet (.type "object") = some true)
    (cn_BadNet : PySem.W.findCls K (.ref C_BadNet) (.type "type") "__name__" = some (.get (.builtin "getset_descriptor.__get__") (.builtin "type.__name__") (.ref C_BadNet) (.type "type")))
    (icb_BadNet : PySem.W.isClsIn K C_PikeError = true)
    (mr_BadNet : PySem.W.mroIn K C_BadNet (.ref C_PikeError) = some true)
    (si_BadNet : PySem.W.ks_superIn K C_BadNet C_PikeError "__init__" = some (some (.builtin "ValueError.__init__")))
    (sb_BadNet : PySem.W.subIn K (.ref C_BadNet) (.type "ValueError") = some true)
    (noc_BadNet : PySem.W.findIn K (.ref C_BadNet) "called" = some none)
    (hd_BadNet : PySem.W.hasDictIn K C_BadNet = true)
    (ss_BadNet : PySem.W.subIn K (.ref C_BadNet) (.ref C_BadNet) = some true)
    (ini_BadNet : PySem.W.findIn K (.ref C_BadNet) "__init__" = some (some (.ref f_c_PikeError_init)))
    {nm_BadPlace q_BadPlace : Str} {N_BadPlace : Addr} {bs_BadPlace bm_BadPlace sub_BadPlace : List Value} {sn_BadPlace : List Str} {ab_BadPlace : Bool} {col_BadPlace : Option Bool} {dd_BadPlace : Option Addr} {k0_BadPlace k1_BadPlace k2_BadPlace k3_BadPlace k5_BadPlace : Option Value} {tn_BadPlace : Tok}
    (cl_BadPlace : K.lookup C_BadPlace = some (excClassObj nm_BadPlace q_BadPlace C_BadPlace N_BadPlace bs_BadPlace bm_BadPlace true sn_BadPlace sub_BadPlace ab_BadPlace col_BadPlace dd_BadPlace k0_BadPlace k1_BadPlace k2_BadPlace k3_BadPlace k5_BadPlace "ValueError.__new__"))
    (rf_BadPlace : PySem.ZEX.refsX false bm_BadPlace = true)
    (kn_BadPlace : k2_BadPlace = some (.str "BadPlace" tn_BadPlace))
    (sa_BadPlace : PySem.W.findIn K (.ref C_BadPlace) "__setattr__" = some (some (.builtin "object.__setattr__")))
    (ex_BadPlace : PySem.W.subIn K (.ref C_BadPlace) (.type "BaseException") = some true)
    (ty_BadPlace : PySem.W.typeIn K (.ref C_BadPlace) = some (.type "type"))
    (kp_BadPlace : PySem.W.keepIn K (.ref C_BadPlace) = true)
    (ga_BadPlace : PySem.W.findIn K (.ref C_BadPlace) "__getattribute__" = some (some (.builtin "BaseException.__getattribute__")))
    (gg_BadPlace : PySem.W.findIn K (.ref C_BadPlace) "__getattr__" = some none)
    (ic_BadPlace : PySem.W.isClsIn K C_BadPlace = true)
    (ca_BadPlace : PySem.W.findIn K (.ref C_BadPlace) "__class__" = some (some (.builtin "object.__class__")))
    (ob_BadPlace : PySem.W.mroIn K C_BadPlace (.type "object") = some true)
    (cn_BadPlace : PySem.W.findCls K (.ref C_BadPlace) (.type "type") "__name__" = some (.get (.builtin "getset_descriptor.__get__") (.builtin "type.__name__") (.ref C_BadPlace) (.type "type")))
    (icb_BadPlace : PySem.W.isClsIn K C_PikeError = true)
    (mr_BadPlace : PySem.W.mroIn K C_BadPlace (.ref C_PikeError) = some true)
    (si_BadPlace : PySem.W.ks_superIn K C_BadPlace C_PikeError "__init__" = some (some (.builtin "ValueError.__init__")))
    (sb_BadPlace : PySem.W.subIn K (.ref C_BadPlace) (.type "ValueError") = some true)
    (noc_BadPlace : PySem.W.findIn K (.ref C_BadPlace) "called" = some none)
    (hd_BadPlace : PySem.W.hasDictIn K C_BadPlace = true)
    (ss_BadPlace : PySem.W.subIn K (.ref C_BadPlace) (.ref C_BadPlace) = some true)
    (ini_BadPlace : PySem.W.findIn K (.ref C_BadPlace) "__init__" = some (some (.ref f_c_PikeError_init)))
    (ssx_BadPlace_BadNet : PySem.W.subIn K (.ref C_BadPlace) (.ref C_BadNet) = some false)
    : ∃ fd : FuncData, (∀ (s : Shared) (v : Value), BindsTo s fd ⟨[v], []⟩ [("_law_script", v)]) ∧ ∀ base : Heap, K.In base → base.Ns mainGlobals mg → FnOk l.prog w K mg base CX0 7 fa fd ["_law_script"] (spLaw K) := by
  have e := hfa.symm.trans (PySem.W.mg_of X G aL)
  cases e
  have F0 := fun_mk (st := s_p_is_number) l0 c0 k0
  have b0 := F0.binds (ps := ["thing"]) fun _ _ _ _ _ _ us hl => match us, hl with | [_], _ => rfl
  have F1 := fun_mk (st := s_p_is_good) l1 c1 k1
  have b1 := F1.binds (ps := ["kind", "number"]) fun _ _ _ _ _ _ us hl => match us, hl with | [_, _], _ => rfl
  have F2 := fun_mk (st := s_p_need_net) l2 c2 k2
  have b2 := F2.binds (ps := ["net"]) fun _ _ _ _ _ _ us hl => match us, hl with | [_], _ => rfl
  have F3 := fun_mk (st := s_p_need_place) l3 c3 k3
  have b3 := F3.binds (ps := ["place"]) fun _ _ _ _ _ _ us hl => match us, hl with | [_], _ => rfl
  have F4 := fun_mk (st := s_p_far_end) l4 c4 k4
  have b4 := F4.binds (ps := ["road", "place"]) fun _ _ _ _ _ _ us hl => match us, hl with | [_, _], _ => rfl
  have F5 := fun_mk (st := s_p_way_round) l5 c5 k5
  have b5 := F5.binds (ps := ["net", "gates", "one", "other"]) fun _ _ _ _ _ _ us hl => match us, hl with | [_, _, _, _], _ => rfl
  have F6 := fun_mk (st := s_p_barred) l6 c6 k6
  have b6 := F6.binds (ps := ["net", "gates", "one", "other"]) fun _ _ _ _ _ _ us hl => match us, hl with | [_, _, _, _], _ => rfl
  have F7 := fun_mk (st := s_l_bag) l7 c7 k7
  have b7 := F7.binds (ps := ["_law_script"]) fun _ _ _ _ _ _ us hl => match us, hl with | [_], _ => rfl
  have F8 := fun_mk (st := s_l_pull) l8 c8 k8
  have b8 := F8.binds (ps := ["_law_bag_here", "_law_amount"]) fun _ _ _ _ _ _ us hl => match us, hl with | [_, _], _ => rfl
  have F9 := fun_mk (st := s_l_like) l9 c9 k9
  have b9 := F9.binds (ps := ["_law_found", "_law_due"]) fun _ _ _ _ _ _ us hl => match us, hl with | [_, _], _ => rfl
  have F10 := fun_mk (st := s_l_far) l10 c10 k10
  have b10 := F10.binds (ps := ["_law_bag_here"]) fun _ _ _ _ _ _ us hl => match us, hl with | [_], _ => rfl
  have F11 := fun_mk (st := s_l_gate) l11 c11 k11
  have b11 := F11.binds (ps := ["_law_bag_here"]) fun _ _ _ _ _ _ us hl => match us, hl with | [_], _ => rfl
  have F12 := fun_mk (st := s_l_num) l12 c12 k12
  have b12 := F12.binds (ps := ["_law_found"]) fun _ _ _ _ _ _ us hl => match us, hl with | [_], _ => rfl
  have F13 := fun_mk (st := s_l_net) l13 c13 k13
  have b13 := F13.binds (ps := ["_law_bag_here"]) fun _ _ _ _ _ _ us hl => match us, hl with | [_], _ => rfl
  have F14 := fun_mk (st := s_l_net_ok) l14 c14 k14
  have b14 := F14.binds (ps := ["_law_net_here"]) fun _ _ _ _ _ _ us hl => match us, hl with | [_], _ => rfl
  have F15 := fun_mk (st := s_l_bent_net) l15 c15 k15
  have b15 := F15.binds (ps := ["_law_bag_here", "_law_net_here"]) fun _ _ _ _ _ _ us hl => match us, hl with | [_, _], _ => rfl
  have F16 := fun_mk (st := s_l_roads) l16 c16 k16
  have b16 := F16.binds (ps := ["_law_net_here", "_law_place_here"]) fun _ _ _ _ _ _ us hl => match us, hl with | [_, _], _ => rfl
  have F17 := fun_mk (st := s_l_place) l17 c17 k17
  have b17 := F17.binds (ps := ["_law_bag_here"]) fun _ _ _ _ _ _ us hl => match us, hl with | [_], _ => rfl
  have F18 := fun_mk (st := s_l_told) l18 c18 k18
  have b18 := F18.binds (ps := ["_law_way", "_law_net_here", "_law_gates", "_law_one", "_law_two"]) fun _ _ _ _ _ _ us hl => match us, hl with | [_, _, _, _, _], _ => rfl
  have F19 := fun_mk (st := s_l_far_off) l19 c19 k19
  have b19 := F19.binds (ps := ["_law_net_here", "_law_gates", "_law_one"]) fun _ _ _ _ _ _ us hl => match us, hl with | [_, _, _], _ => rfl
  have F20 := fun_mk (st := s_l_way_ok) l20 c20 k20
  have b20 := F20.binds (ps := ["_law_net_here", "_law_gates", "_law_way", "_law_one", "_law_two", "_law_steps"]) fun _ _ _ _ _ _ us hl => match us, hl with | [_, _, _, _, _, _], _ => rfl
  have T : Tx l.prog K mg w := {
    f_p_is_number := _, d_p_is_number := _, F_p_is_number := F0, g_p_is_number := PySem.W.mg_of X G a0, b_p_is_number := b0,
    f_p_is_good := _, d_p_is_good := _, F_p_is_good := F1, g_p_is_good := PySem.W.mg_of X G a1, b_p_is_good := b1,
    f_p_need_net := _, d_p_need_net := _, F_p_need_net := F2, g_p_need_net := PySem.W.mg_of X G a2, b_p_need_net := b2,
    f_p_need_place := _, d_p_need_place := _, F_p_need_place := F3, g_p_need_place := PySem.W.mg_of X G a3, b_p_need_place := b3,
    f_p_far_end := _, d_p_far_end := _, F_p_far_end := F4, g_p_far_end := PySem.W.mg_of X G a4, b_p_far_end := b4,
    f_p_way_round := _, d_p_way_round := _, F_p_way_round := F5, g_p_way_round := PySem.W.mg_of X G a5, b_p_way_round := b5,
    f_p_barred := _, d_p_barred := _, F_p_barred := F6, g_p_barred := PySem.W.mg_of X G a6, b_p_barred := b6,
    f_l_bag := _, d_l_bag := _, F_l_bag := F7, g_l_bag := PySem.W.mg_of X G a7, b_l_bag := b7,
    f_l_pull := _, d_l_pull := _, F_l_pull := F8, g_l_pull := PySem.W.mg_of X G a8, b_l_pull := b8,
    f_l_like := _, d_l_like := _, F_l_like := F9, g_l_like := PySem.W.mg_of X G a9, b_l_like := b9,
    f_l_far := _, d_l_far := _, F_l_far := F10, g_l_far := PySem.W.mg_of X G a10, b_l_far := b10,
    f_l_gate := _, d_l_gate := _, F_l_gate := F11, g_l_gate := PySem.W.mg_of X G a11, b_l_gate := b11,
    f_l_num := _, d_l_num := _, F_l_num := F12, g_l_num := PySem.W.mg_of X G a12, b_l_num := b12,
    f_l_net := _, d_l_net := _, F_l_net := F13, g_l_net := PySem.W.mg_of X G a13, b_l_net := b13,
    f_l_net_ok := _, d_l_net_ok := _, F_l_net_ok := F14, g_l_net_ok := PySem.W.mg_of X G a14, b_l_net_ok := b14,
    f_l_bent_net := _, d_l_bent_net := _, F_l_bent_net := F15, g_l_bent_net := PySem.W.mg_of X G a15, b_l_bent_net := b15,
    f_l_roads := _, d_l_roads := _, F_l_roads := F16, g_l_roads := PySem.W.mg_of X G a16, b_l_roads := b16,
    f_l_place := _, d_l_place := _, F_l_place := F17, g_l_place := PySem.W.mg_of X G a17, b_l_place := b17,
    f_l_told := _, d_l_told := _, F_l_told := F18, g_l_told := PySem.W.mg_of X G a18, b_l_told := b18,
    f_l_far_off := _, d_l_far_off := _, F_l_far_off := F19, g_l_far_off := PySem.W.mg_of X G a19, b_l_far_off := b19,
    f_l_way_ok := _, d_l_way_ok := _, F_l_way_ok := F20, g_l_way_ok := PySem.W.mg_of X G a20, b_l_way_ok := b20,
    z_len := PySem.W.mg_none_of X G z_len,
    z_isinstance := PySem.W.mg_none_of X G z_isinstance,
    z_tuple := PySem.W.mg_none_of X G z_tuple,
    z_list := PySem.W.mg_none_of X G z_list,
    z_bool := PySem.W.mg_none_of X G z_bool,
    z_range := PySem.W.mg_none_of X G z_range,
    z_int := PySem.W.mg_none_of X G z_int,
    z_all := PySem.W.mg_none_of X G z_all,
    z_any := PySem.W.mg_none_of X G z_any,
    t_MOST_ROADS := _, k_MOST_ROADS := PySem.W.mg_of X G k_MOST_ROADS,
    B_BOUNDS := _, g_BOUNDS := PySem.W.mg_of X G a_BOUNDS,
    t_BOUNDS_gate := _, kd_BOUNDS_gate := ⟨_, _, _, ld_BOUNDS, kl_BOUNDS, ek_BOUNDS_gate, rfl⟩, kt_BOUNDS_gate := .inr ⟨_, _, _, lt_BOUNDS_gate, rfl, rfl, (show 2 ≤ sizeLine from sz (by decide)), (.cons ⟨_, rfl⟩ (.cons ⟨_, rfl⟩ .nil))⟩,
    t_BOUNDS_place := _, kd_BOUNDS_place := ⟨_, _, _, ld_BOUNDS, kl_BOUNDS, ek_BOUNDS_place, rfl⟩, kt_BOUNDS_place := .inr ⟨_, _, _, lt_BOUNDS_place, rfl, rfl, (show 2 ≤ sizeLine from sz (by decide)), (.cons ⟨_, rfl⟩ (.cons ⟨_, rfl⟩ .nil))⟩,
    C_PikeError := _, g_PikeError := PySem.W.mg_of X G a_PikeError,
    C_BadNet := _, g_BadNet := PySem.W.mg_of X G a_BadNet,
    C_BadPlace := _, g_BadPlace := PySem.W.mg_of X G a_BadPlace,
    f_c_PikeError_init := _, d_c_PikeError_init := _, cda_c_PikeError_init := _, cc_c_PikeError_init := _, FS_c_PikeError_init := (⟨⟨_, _, _, _, _, _, _, _, rfl, lk_c_PikeError_init, cdk_c_PikeError_init⟩, ⟨_, _, _, lc_c_PikeError_init⟩, ⟨_, _, _, _, _, _, ld_c_PikeError_init, hv_c_PikeError_init, hf_c_PikeError_init⟩, kf_c_PikeError_init, tyf_c_PikeError_init, fnf_c_PikeError_init, htop, PySem.W.mg_none_of X G z_super⟩ : FunS l.prog K mg "__init__" "PikeError.__init__" s_c_PikeError_init f_c_PikeError_init _ cda_c_PikeError_init cc_c_PikeError_init C_PikeError), b_c_PikeError_init := FunS.binds (ps := ["self", "reason"]) (⟨⟨_, _, _, _, _, _, _, _, rfl, lk_c_PikeError_init, cdk_c_PikeError_init⟩, ⟨_, _, _, lc_c_PikeError_init⟩, ⟨_, _, _, _, _, _, ld_c_PikeError_init, hv_c_PikeError_init, hf_c_PikeError_init⟩, kf_c_PikeError_init, tyf_c_PikeError_init, fnf_c_PikeError_init, htop, PySem.W.mg_none_of X G z_super⟩ : FunS l.prog K mg "__init__" "PikeError.__init__" s_c_PikeError_init f_c_PikeError_init _ cda_c_PikeError_init cc_c_PikeError_init C_PikeError) (fun _ _ _ _ _ us hl => match us, hl with | [_, _], _ => rfl),
    pk_BadNet := ⟨⟨⟨_, _, _, _, _, _, _, _, _, _, _, _, _, _, _, cl_BadNet, rf_BadNet⟩, sa_BadNet, ex_BadNet, ty_BadNet, kp_BadNet⟩, ⟨ga_BadNet, gg_BadNet, ex_BadNet, ic_BadNet, ca_BadNet, xsp, xtk, ob_BadNet, xst, ty_BadNet, cn_BadNet, ⟨_, nameIn_of cl_BadNet kn_BadNet⟩⟩, ⟨xst, ic_BadNet, icb_BadNet, mr_BadNet⟩, si_BadNet, sb_BadNet, noc_BadNet⟩,
    in_BadNet := ini_BadNet,
    e_BadNet := exm_self ex_BadNet ic_BadNet ty_BadNet ss_BadNet, xf_BadNet := ⟨ga_BadNet, gg_BadNet, ex_BadNet, hd_BadNet⟩,
    pk_BadPlace := ⟨⟨⟨_, _, _, _, _, _, _, _, _, _, _, _, _, _, _, cl_BadPlace, rf_BadPlace⟩, sa_BadPlace, ex_BadPlace, ty_BadPlace, kp_BadPlace⟩, ⟨ga_BadPlace, gg_BadPlace, ex_BadPlace, ic_BadPlace, ca_BadPlace, xsp, xtk, ob_BadPlace, xst, ty_BadPlace, cn_BadPlace, ⟨_, nameIn_of cl_BadPlace kn_BadPlace⟩⟩, ⟨xst, ic_BadPlace, icb_BadPlace, mr_BadPlace⟩, si_BadPlace, sb_BadPlace, noc_BadPlace⟩,
    in_BadPlace := ini_BadPlace,
    e_BadPlace := exm_self ex_BadPlace ic_BadPlace ty_BadPlace ss_BadPlace, xf_BadPlace := ⟨ga_BadPlace, gg_BadPlace, ex_BadPlace, hd_BadPlace⟩,
    e_BadPlace_BadNet := exm_sub ex_BadNet ic_BadNet ty_BadNet ssx_BadPlace_BadNet }
  exact ⟨_, fun s v => .of_eq rfl, fun base _ _ => ok_law T (fun_mk (st := s_law) lL cL kL)⟩
theorem walk {l : PySem.W.OpenLaw} {q : Program} {loose : List Str} {XP : (Str → Option Value) → Heap → Prop} {YP : World → Heap → Prop} {d : DefRec} {K : Params → PySem.W.Frag} (hn : l.most = some 63) (hdf : d.params.defaults = [])
    (hY : ∀ (w : World) (h : Heap), YP w h → (K w.params).In h)
    (F : ∀ (w : World) (mg : Str → Option Value) (fa : Addr) (h : Heap), (K w.params).In h → h.Ns mainGlobals mg → mg d.name = some (.ref fa) →
      ∃ fd : FuncData, (∀ (s : Shared) (u : Value), BindsTo s fd ⟨[u], []⟩ [("_law_script", u)]) ∧ ∀ base : Heap, (K w.params).In base → base.Ns mainGlobals mg → FnOk l.prog w (K w.params) mg base CX0 7 fa fd ["_law_script"] (spLaw (K w.params))) :
    PySem.W.WalkO q loose XP YP l.row.toRowW d [] (fun f vs => PySem.call f vs) :=
  L2.walk_of (n := 63) (k := 7) (x := "_law_script") (CX := fun _ => CX0) (sp := fun w => spLaw (K w.params)) hn (by decide) hdf ⟨rfl, by decide, by decide⟩ hY F (fun _ _ a ns hl _ hS => ⟨a, ns, rfl, hS, hl, fun _ => rfl⟩) fun _ _ _ _ _ z => z
end Q
open PySem PySem.W PyProof.Rows in
set_option maxRecDepth 100000 in
set_option maxHeartbeats 0 in
theorem PySem.Challenge.cw_pikeroll_k16_gates_that_bar_and_ways_rou_holds : PySem.Challenge.rw_pikeroll_k16_gates_that_bar_and_ways_rou.Holds := by
  w_on; o_law; k_head; (case hw => w_witness2)
  k_fill
  refine Q.walk (l := PySem.Challenge.rw_pikeroll_k16_gates_that_bar_and_ways_rou) rfl rfl (fun w h Y => PySem.W.kIn_of Y) ?F
  case F =>
    intro w mg fa h KX G hmg
    refine' Q.all_mk KX G hmg ?a0 ?l0 ?c0 ?k0 ?a1 ?l1 ?c1 ?k1 ?a2 ?l2 ?c2 ?k2 ?a3 ?l3 ?c3 ?k3 ?a4 ?l4 ?c4 ?k4 ?a5 ?l5 ?c5 ?k5 ?a6 ?l6 ?c6 ?k6 ?a7 ?l7 ?c7 ?k7 ?a8 ?l8 ?c8 ?k8 ?a9 ?l9 ?c9 ?k9 ?a10 ?l10 ?c10 ?k10 ?a11 ?l11 ?c11 ?k11 ?a12 ?l12 ?c12 ?k12 ?a13 ?l13 ?c13 ?k13 ?a14 ?l14 ?c14 ?k14 ?a15 ?l15 ?c15 ?k15 ?a16 ?l16 ?c16 ?k16 ?a17 ?l17 ?c17 ?k17 ?a18 ?l18 ?c18 ?k18 ?a19 ?l19 ?c19 ?k19 ?a20 ?l20 ?c20 ?k20 ?aL ?lL ?cL ?kL ?z_len ?z_isinstance ?z_tuple ?z_list ?z_bool ?z_range ?z_int ?z_all ?z_any ?k_MOST_ROADS ?a_BOUNDS ?ld_BOUNDS ?kl_BOUNDS ?ek_BOUNDS_gate ?lt_BOUNDS_gate ?ek_BOUNDS_place ?lt_BOUNDS_place ?z_super ?htop ?xst ?xsp ?xtk ?a_PikeError ?a_BadNet ?a_BadPlace ?at_c_PikeError_init ?lk_c_PikeError_init ?cdk_c_PikeError_init ?kf_c_PikeError_init ?tyf_c_PikeError_init ?fnf_c_PikeError_init ?lc_c_PikeError_init ?ld_c_PikeError_init ?hv_c_PikeError_init ?hf_c_PikeError_init ?cl_BadNet ?rf_BadNet ?kn_BadNet ?sa_BadNet ?ex_BadNet ?ty_BadNet ?kp_BadNet ?ga_BadNet ?gg_BadNet ?ic_BadNet ?ca_BadNet ?ob_BadNet ?cn_BadNet ?icb_BadNet ?mr_BadNet ?si_BadNet ?sb_BadNet ?noc_BadNet ?hd_BadNet ?ss_BadNet ?ini_BadNet ?cl_BadPlace ?rf_BadPlace ?kn_BadPlace ?sa_BadPlace ?ex_BadPlace ?ty_BadPlace ?kp_BadPlace ?ga_BadPlace ?gg_BadPlace ?ic_BadPlace ?ca_BadPlace ?ob_BadPlace ?cn_BadPlace ?icb_BadPlace ?mr_BadPlace ?si_BadPlace ?sb_BadPlace ?noc_BadPlace ?hd_BadPlace ?ss_BadPlace ?ini_BadPlace ?ssx_BadPlace_BadNet
    (case a0 => k_is)
    (case l0 => k_is)
    (case c0 => k_is)
    (case k0 => k_is)
    (case a1 => k_is)
    (case l1 => k_is)
    (case c1 => k_is)
    (case k1 => k_is)
    (case a2 => k_is)
    (case l2 => k_is)
    (case c2 => k_is)
    (case k2 => k_is)
    (case a3 => k_is)
    (case l3 => k_is)
    (case c3 => k_is)
    (case k3 => k_is)
    (case a4 => k_is)
    (case l4 => k_is)
    (case c4 => k_is)
    (case k4 => k_is)
    (case a5 => k_is)
    (case l5 => k_is)
    (case c5 => k_is)
    (case k5 => k_is)
    (case a6 => k_is)
    (case l6 => k_is)
    (case c6 => k_is)
    (case k6 => k_is)
    (case a7 => k_is)
    (case l7 => k_is)
    (case c7 => k_is)
    (case k7 => k_is)
    (case a8 => k_is)
    (case l8 => k_is)
    (case c8 => k_is)
    (case k8 => k_is)
    (case a9 => k_is)
    (case l9 => k_is)
    (case c9 => k_is)
    (case k9 => k_is)
    (case a10 => k_is)
    (case l10 => k_is)
    (case c10 => k_is)
    (case k10 => k_is)
    (case a11 => k_is)
    (case l11 => k_is)
    (case c11 => k_is)
    (case k11 => k_is)
    (case a12 => k_is)
    (case l12 => k_is)
    (case c12 => k_is)
    (case k12 => k_is)
    (case a13 => k_is)
    (case l13 => k_is)
    (case c13 => k_is)
    (case k13 => k_is)
    (case a14 => k_is)
    (case l14 => k_is)
    (case c14 => k_is)
    (case k14 => k_is)
    (case a15 => k_is)
    (case l15 => k_is)
    (case c15 => k_is)
    (case k15 => k_is)
    (case a16 => k_is)
    (case l16 => k_is)
    (case c16 => k_is)
    (case k16 => k_is)
    (case a17 => k_is)
    (case l17 => k_is)
    (case c17 => k_is)
    (case k17 => k_is)
    (case a18 => k_is)
    (case l18 => k_is)
    (case c18 => k_is)
    (case k18 => k_is)
    (case a19 => k_is)
    (case l19 => k_is)
    (case c19 => k_is)
    (case k19 => k_is)
    (case a20 => k_is)
    (case l20 => k_is)
    (case c20 => k_is)
    (case k20 => k_is)
    (case aL => k_is)
    (case lL => k_is)
    (case cL => k_is)
    (case kL => k_is)
    (case z_len => k_is)
    (case z_isinstance => k_is)
    (case z_tuple => k_is)
    (case z_list => k_is)
    (case z_bool => k_is)
    (case z_range => k_is)
    (case z_int => k_is)
    (case z_all => k_is)
    (case z_any => k_is)
    (case k_MOST_ROADS => k_is)
    (case a_BOUNDS => k_is)
    (case ld_BOUNDS => k_is)
    (case kl_BOUNDS => k_keys)
    (case ek_BOUNDS_gate => k_is)
    (case lt_BOUNDS_gate => k_is)
    (case ek_BOUNDS_place => k_is)
    (case lt_BOUNDS_place => k_is)
    (case z_super => k_is)
    (case htop => first | rfl | decide +kernel)
    (case xst => k_is)
    (case xsp => k_is)
    (case xtk => k_is)
    (case a_PikeError => k_is)
    (case a_BadNet => k_is)
    (case a_BadPlace => k_is)
    (case at_c_PikeError_init => k_is)
    (case lk_c_PikeError_init => k_is)
    (case cdk_c_PikeError_init => k_is)
    (case kf_c_PikeError_init => k_is)
    (case tyf_c_PikeError_init => k_is)
    (case fnf_c_PikeError_init => k_is)
    (case lc_c_PikeError_init => k_is)
    (case ld_c_PikeError_init => k_is)
    (case hv_c_PikeError_init => rfl)
    (case hf_c_PikeError_init => first | rfl | decide +kernel)
    (case cl_BadNet => k_is)
    (case rf_BadNet => decide +kernel)
    (case kn_BadNet => rfl)
    (case sa_BadNet => k_is)
    (case ex_BadNet => k_is)
    (case ty_BadNet => k_is)
    (case kp_BadNet => k_is)
    (case ga_BadNet => k_is)
    (case gg_BadNet => k_is)
    (case ic_BadNet => k_is)
    (case ca_BadNet => k_is)
    (case ob_BadNet => k_is)
    (case cn_BadNet => k_is)
    (case icb_BadNet => k_is)
    (case mr_BadNet => k_is)
    (case si_BadNet => ks_is)
    (case sb_BadNet => k_is)
    (case noc_BadNet => k_is)
    (case hd_BadNet => k_is)
    (case ss_BadNet => first | rfl | k_is)
    (case ini_BadNet => k_is)
    (case cl_BadPlace => k_is)
    (case rf_BadPlace => decide +kernel)
    (case kn_BadPlace => rfl)
    (case sa_BadPlace => k_is)
    (case ex_BadPlace => k_is)
    (case ty_BadPlace => k_is)
    (case kp_BadPlace => k_is)
    (case ga_BadPlace => k_is)
    (case gg_BadPlace => k_is)
    (case ic_BadPlace => k_is)
    (case ca_BadPlace => k_is)
    (case ob_BadPlace => k_is)
    (case cn_BadPlace => k_is)
    (case icb_BadPlace => k_is)
    (case mr_BadPlace => k_is)
    (case si_BadPlace => ks_is)
    (case sb_BadPlace => k_is)
    (case noc_BadPlace => k_is)
    (case hd_BadPlace => k_is)
    (case ss_BadPlace => first | rfl | k_is)
    (case ini_BadPlace => k_is)
    (case ssx_BadPlace_BadNet => k_is)
#print axioms PySem.Challenge.cw_pikeroll_k16_gates_that_bar_and_ways_rou_holds
