import PyProof.Rows.All
import Wide.All
import OpenK.AllK
import Wide.FinOn
import HandS.ForMost
import HandS.Wide
import HandS.IsInst
import HandS.FStr
import HandS.Defaults
import HandS.StrMore
import HandS.Style
import HandS.TupAny
import HandS.RaiseMore
import HandS.Walk
import HandS.Steps
import HandS.Evl
import HandS.ForExc
import HandS.TryMany
import HandS.TryOnly
import HandS.Replace
import PyProof.Rows.StrPadFill
import HandS.TupLe
import HandS.Strs
import HandS.More
import PyProof.Rows.SetFrom
import KE.KStar
import HandS.OwnEq
import HandS.MakeKw
import HandS.MakeKwOnly
import KE.KCallOwn
import KE.KFmtOwn
import PyProof.InstEq
import PyProof.CallFns
import PyProof.EqAt
import PyProof.SeqRoads2
import PyProof.WalksMore
import HandS.SortRule
import HandS.TupSets
import HandS.SetBool
import HandS.DictComp
import HandS.Deep
import HandS.Dict
import KE.KExcSuper
import KE.KSuper
import HandS.Exc
import HandS.ExcInit
import HandS.Nested
import HandS.ClsMeth
import PyProof.Rows.FactsExc_KeyError
import PyProof.ExcBaseAll.LookupError
import KE.KExcIs
import KE.KTypeName
import HandS.Words
import HandS.ExcField
import HandS.RaiseFrom
import KE.RegKSuper
import HandS.SortInts
import PySem.Challenge.RW_pikeroll_k09_why_tickets_clear_not
set_option Elab.async false
set_option linter.all false
set_option maxRecDepth 100000
/-! The verifier's own layer: readings step by step, heaps that grow, the drawing bag. -/
namespace Z
open PySem L2

/-- a new object -/
def NewO (o : HO) (H : Hp) (Q : VK) : Prop := ∀ p, H p = none → Q (.ref p) (upd H p o)
/-- all that stood stands -/
def Ex (H H' : Hp) : Prop := ∀ a o, H a = some o → H' a = some o
theorem Ex.new {H : Hp} {p : Addr} {o : HO} (h : H p = none) : Ex H (upd H p o) := fun a u e => by
  rw [upd_ne (ne_of_none e h)]
  exact e
theorem s_new {H : Hp} {Q : VK} {o : HO} (k : ∀ p H', H p = none → Ex H H' → H' p = some o → Q (.ref p) H') : NewO o H Q := fun p hp => k p _ hp (Ex.new hp) upd_same
theorem s_newS {H : Hp} {Q : VK} {o : HO} {n : Nat} (h : n ≤ sizeLine) (k : ∀ p H', H p = none → Ex H H' → H' p = some o → Q (.ref p) H') : n ≤ sizeLine ∧ NewO o H Q := ⟨h, s_new k⟩
/-! ### steps of a reading -/
section
variable {K : PySem.W.Frag} {σ σ' : L2.St} {H H' : Hp} {Q : VK} {ta tb tc te : TE} {t u : TT} {nx bk ct : L2.St → Hp → Prop} {rt : VK} {ts us : TS} {i j : Nat} {v x y : V} {r r' : R2}
theorem s_var (h : σ[i]? = some (some v)) (k : Q v H) : tVar i σ H Q := ⟨v, h, k⟩
theorem s_C (k : Q v H) : tC v σ H Q := k
theorem s_op (k : ta σ H fun x H1 => tb σ H1 fun y H2 => r x y H2 Q) : tOp r ta tb σ H Q := k
theorem s_un {r : V → Hp → VK → Prop} (k : ta σ H fun x H1 => r x H1 Q) : tUn r ta σ H Q := k
theorem s_rI {C : Int → Int → Prop} {g : Int → Int → V} {a b : Int} (hc : C a b) (k : Q (g a b) H) : rI C g (.int a) (.int b) H Q := ⟨a, b, rfl, rfl, hc, k⟩
theorem s_rI0 {g : Int → Int → V} {a b : Int} (k : Q (g a b) H) : rI0 g (.int a) (.int b) H Q := ⟨a, b, rfl, rfl, k⟩
theorem s_rU {g : Int → V} {a : Int} (k : Q (g a) H) : rU g (.int a) H Q := ⟨a, rfl, k⟩
theorem s_rEq (h : scal x y = true) (k : Q (.bl (decide (x = y))) H) : rEq x y H Q := ⟨h, k⟩
theorem s_rNe (h : scal x y = true) (k : Q (.bl (!decide (x = y))) H) : rNe x y H Q := ⟨h, k⟩
theorem s_rEqI {a b : Int} (k : Q (.bl (decide (a = b))) H) : rEq (.int a) (.int b) H Q := ⟨rfl, by
  have e : decide (V.int a = V.int b) = decide (a = b) := by simp
  rw [e]; exact k⟩
theorem s_rNeI {a b : Int} (k : Q (.bl (!decide (a = b))) H) : rNe (.int a) (.int b) H Q := ⟨rfl, by
  have e : decide (V.int a = V.int b) = decide (a = b) := by simp
  rw [e]; exact k⟩
theorem s_rEqS {a b : Str} (k : Q (.bl (decide (a = b))) H) : rEq (.str a) (.str b) H Q := ⟨rfl, by
  have e : decide (V.str a = V.str b) = decide (a = b) := by simp
  rw [e]; exact k⟩
theorem s_rNeS {a b : Str} (k : Q (.bl (!decide (a = b))) H) : rNe (.str a) (.str b) H Q := ⟨rfl, by
  have e : decide (V.str a = V.str b) = decide (a = b) := by simp
  rw [e]; exact k⟩
theorem s_rEqB {a b : Bool} (k : Q (.bl (a == b)) H) : rEq (.bl a) (.bl b) H Q := ⟨rfl, by
  have e : decide (V.bl a = V.bl b) = (a == b) := by cases a <;> cases b <;> rfl
  rw [e]; exact k⟩
theorem s_rNeB {a b : Bool} (k : Q (.bl (a != b)) H) : rNe (.bl a) (.bl b) H Q := ⟨rfl, by
  have e : (!decide (V.bl a = V.bl b)) = (a != b) := by cases a <;> cases b <;> rfl
  rw [e]; exact k⟩
theorem s_tB {R : Bool → Hp → Prop} (k : te σ H fun x H1 => ∃ c, x = .bl c ∧ R c H1) : tB te σ H R := k
theorem s_tTest {R : Bool → Hp → Prop} (k : te σ H fun x H1 => ∃ c, x = .bl c ∧ R c H1) : tTest te σ H R := k
theorem s_bl {c : Bool} {R : Bool → Prop} (k : R c) : ∃ c', V.bl c = .bl c' ∧ R c' := ⟨c, rfl, k⟩
theorem s_and {R : Bool → Hp → Prop} (k : t σ H fun c H1 => if c = true then u σ H1 R else R false H1) : tAnd t u σ H R := k
theorem s_or {R : Bool → Hp → Prop} (k : t σ H fun c H1 => if c = true then R true H1 else u σ H1 R) : tOr t u σ H R := k
theorem s_not {R : Bool → Hp → Prop} (k : t σ H fun c H1 => R (!c) H1) : tNot t σ H R := k
theorem s_andV (k : ta σ H fun x H1 => ∃ c, x = .bl c ∧ if c = true then tb σ H1 Q else Q (.bl false) H1) : tAndV ta tb σ H Q := k
theorem s_orV (k : ta σ H fun x H1 => ∃ c, x = .bl c ∧ if c = true then Q (.bl true) H1 else tb σ H1 Q) : tOrV ta tb σ H Q := k
theorem s_notV (k : ta σ H fun x H1 => ∃ c, x = .bl c ∧ Q (.bl (!c)) H1) : tNotV ta σ H Q := k
theorem s_ifE (k : t σ H fun c H1 => if c = true then ta σ H1 Q else tb σ H1 Q) : tIf t ta tb σ H Q := k
theorem s_chain (k : ta σ H fun x H1 => tb σ H1 fun y H2 => r x y H2 fun z H3 => ∃ c, z = .bl c ∧ (if c = true then tc σ H3 fun w H4 => r' y w H4 Q else Q (.bl false) H3)) : tChain r r' ta tb tc σ H Q := k
theorem s_nil {R : List V → Hp → Prop} (k : R [] H) : tNil σ H R := k
theorem s_cons {tr : TA} {R : List V → Hp → Prop} (k : ta σ H fun x H1 => tr σ H1 fun xs H2 => R (x :: xs) H2) : tCons ta tr σ H R := k
theorem s_CB {r : List V → Hp → VK → Prop} {tr : TA} (k : tr σ H fun vs H1 => r vs H1 Q) : tCB r tr σ H Q := k
theorem s_call {sp : Sp} {dvs : List V} {E : XK} {tr : TA} (k : tr σ H fun vs H1 => sp (vs ++ dvs) H1 Q E) : tCall sp dvs E tr σ H Q := k
abbrev FldR (K : PySem.W.Frag) (f : Str) (x : V) (H : Hp) (Q : VK) : Prop := ∃ a C dx fs v, x = .ref a ∧ H a = some (.ins C dx fs) ∧ Cls K C ∧ NoAttr K C f ∧ fs.lookup f = some v ∧ Q v H
theorem s_fld {f : Str} (k : ta σ H fun x H1 => FldR K f x H1 Q) : tFld K ta f σ H Q := k
theorem s_sl {r : V → Option Int → Option Int → Hp → VK → Prop} {tl th : TO} (k : te σ H fun x H1 => tl σ H1 fun l H2 => th σ H2 fun u H3 => r x l u H3 Q) : tSl r te tl th σ H Q := k
theorem s_noPart {R : Option Int → Hp → Prop} (k : R none H) : tNoPart σ H R := k
def PartI (x : V) (R : Option Int → Hp → Prop) (H : Hp) : Prop := ∃ a, x = .int a ∧ R (some a) H
theorem s_part {R : Option Int → Hp → Prop} (k : te σ H fun x H1 => PartI x R H1) : tPart te σ H R := k
theorem s_partI {a : Int} {R : Option Int → Hp → Prop} (k : R (some a) H) : PartI (.int a) R H := ⟨a, rfl, k⟩
theorem s_bm {T : String} {r : V → List V → Hp → VK → Prop} {tr : TA} (k : ta σ H fun x H1 => tyV K T x H1 ∧ tr σ H1 fun xs H2 => r x xs H2 Q) : tBM K T r ta tr σ H Q := k
theorem s_bm0 {T : String} {r : V → List V → Hp → VK → Prop} (k : ta σ H fun x H1 => tyV K T x H1 ∧ r x [] H1 Q) : tBM0 K T r ta σ H Q := k
theorem s_m0 {r : V → List V → Hp → VK → Prop} (k : ta σ H fun x H1 => (∃ a, x = .str a) ∧ r x [] H1 Q) : tM0 r ta σ H Q := k
theorem s_m1 {r : V → List V → Hp → VK → Prop} (k : ta σ H fun x H1 => (∃ a, x = .str a) ∧ tb σ H1 fun y H2 => r x [y] H2 Q) : tM1 r ta tb σ H Q := k
theorem at_start {D : Ends} {ρ ρ' : L2.St} (e : ρ = ρ') (k : ts D ρ' H) : ts D ρ H := by
  rw [e]
  exact k
theorem s_isStr {z : Str} {R : Prop} (k : R) : (∃ a, V.str z = .str a) ∧ R := ⟨⟨z, rfl⟩, k⟩
/-! statements: the ends stay written out -/
theorem s_next (k : nx σ H) : tNext ⟨nx, rt, bk, ct⟩ σ H := k
theorem s_seq (k : ts ⟨us ⟨nx, rt, bk, ct⟩, rt, bk, ct⟩ σ H) : tSeq ts us ⟨nx, rt, bk, ct⟩ σ H := k
theorem s_cut (M : L2.St → Hp → Prop) (h : ts ⟨M, rt, bk, ct⟩ σ H) (k : ∀ ρ H', M ρ H' → us ⟨nx, rt, bk, ct⟩ ρ H') : Evl.tCut ts us ⟨nx, rt, bk, ct⟩ σ H := ⟨M, h, k⟩
theorem s_break (k : bk σ H) : tBreak ⟨nx, rt, bk, ct⟩ σ H := k
theorem s_cont (k : ct σ H) : tCont ⟨nx, rt, bk, ct⟩ σ H := k
theorem s_drop (k : te σ H fun _ H1 => nx σ H1) : tDrop te ⟨nx, rt, bk, ct⟩ σ H := k
theorem s_ret (k : te σ H rt) : tRet te ⟨nx, rt, bk, ct⟩ σ H := k
theorem s_retN (k : rt .non H) : tRetN ⟨nx, rt, bk, ct⟩ σ H := k
theorem s_ifS (k : t σ H fun b H1 => if b = true then ts ⟨nx, rt, bk, ct⟩ σ H1 else us ⟨nx, rt, bk, ct⟩ σ H1) : tIfS t ts us ⟨nx, rt, bk, ct⟩ σ H := k
theorem s_set (k : te σ H fun x H1 => nx (σ.set i (some x)) H1) : tAsg te (gName i) ⟨nx, rt, bk, ct⟩ σ H := k
theorem s_asg {g : TG} (k : te σ H fun x H1 => g x σ H1 nx) : tAsg te g ⟨nx, rt, bk, ct⟩ σ H := k
theorem s_par {tr : TA} (k : tr σ H fun vs H1 => ∃ v w, vs = [v, w] ∧ nx ((σ.set i (some v)).set j (some w)) H1) : tPar i j tr ⟨nx, rt, bk, ct⟩ σ H := k
theorem s_parI {v w : V} {R : V → V → Prop} (k : R v w) : ∃ v' w', [v, w] = [v', w'] ∧ R v' w' := ⟨v, w, rfl, k⟩
theorem s_gName {R : L2.St → Hp → Prop} (k : R (σ.set i (some v)) H) : gName i v σ H R := k
theorem s_gSub {tS : TSet} {R : L2.St → Hp → Prop} (k : ta σ H fun o H1 => tb σ H1 fun i H2 => tS o i v H2 fun H3 => R σ H3) : gSub ta tb tS v σ H R := k
theorem s_gTup {n : Nat} {tg : TGs} {a : Addr} {xs : List V} {R : L2.St → Hp → Prop} (h : SqT K H a xs) (hn : xs.length = n) (k : tg xs σ H R) : gTup K n tg (.ref a) σ H R := ⟨a, xs, rfl, h, hn, k⟩
theorem s_gCons {tg : TG} {tgs : TGs} {xs : List V} {R : L2.St → Hp → Prop} (k : tg v σ H fun σ1 H1 => tgs xs σ1 H1 R) : gCons tg tgs (v :: xs) σ H R := ⟨v, xs, rfl, k⟩
theorem s_gNil {R : L2.St → Hp → Prop} (k : R σ H) : gNil [] σ H R := ⟨rfl, k⟩
theorem s_tup {tr : TA} (k : tr σ H fun xs H1 => xs.length ≤ sizeLine ∧ NewO (.tup xs) H1 Q) : tTup tr σ H Q := k
theorem s_lst {tr : TA} (k : tr σ H fun xs H1 => xs.length ≤ sizeLine ∧ NewO (.lst xs) H1 Q) : tLst tr σ H Q := k
theorem s_ixL {p : Addr} {xs : List V} {a : Int} (h : SqL K H p xs) (e : atI xs a = some v) (k : Q v H) : rIxL K (.ref p) (.int a) H Q := ⟨p, xs, a, v, rfl, rfl, h, e, k⟩
theorem s_ixT {p : Addr} {xs : List V} {a : Int} (h : SqT K H p xs) (e : atI xs a = some v) (k : Q v H) : rIxT K (.ref p) (.int a) H Q := ⟨p, xs, a, v, rfl, rfl, h, e, k⟩
theorem s_setL {p : Addr} {xs : List V} {a : Int} {m : Nat} {R : Hp → Prop} (h : H p = some (.lst xs)) (e : ixN xs.length a = some m) (k : R (upd H p (.lst (xs.set m v)))) : rSetL (.ref p) (.int a) v H R := ⟨p, xs, a, m, rfl, rfl, h, e, k⟩
theorem s_slL {a : Addr} {xs : List V} {lo hi : Option Int} (h : SqL K H a xs) (k : NewO (.lst (cutV xs lo hi)) H Q) : rSlL K (.ref a) lo hi H Q := ⟨a, xs, rfl, h, k⟩
theorem s_slS {z : Str} {lo hi : Option Int} (h : z.length ≤ sizeLine) (k : Q (.str (cutS z lo hi)) H) : rSlS (.str z) lo hi H Q := ⟨z, rfl, h, k⟩
theorem s_len {p : Addr} {xs : List V} (h : SqL K H p xs ∨ SqT K H p xs) (k : Q (.int xs.length) H) : ∃ q ys, [V.ref p] = [V.ref q] ∧ (SqL K H q ys ∨ SqT K H q ys) ∧ Q (.int ys.length) H := ⟨p, xs, rfl, h, k⟩
/-! ifs -/
theorem ite_both {c : Bool} {A B : Prop} (h1 : c = true → A) (h2 : c = false → B) : if c = true then A else B := by
  cases c with
  | true => rw [if_pos rfl]; exact h1 rfl
  | false => rw [if_neg (by decide)]; exact h2 rfl
theorem ite_dec {p A B : Prop} {ip : Decidable p} (h1 : p → A) (h2 : ¬ p → B) : if decide p = true then A else B :=
  ite_both (fun h => h1 (of_decide_eq_true h)) (fun h => h2 (of_decide_eq_false h))
theorem ite_ndec {p A B : Prop} {ip : Decidable p} (h1 : ¬ p → A) (h2 : p → B) : if (!decide p) = true then A else B :=
  ite_both (fun h => h1 (by simpa using h)) (fun h => h2 (by simpa using h))
theorem ite_t {A B : Prop} (h : A) : if true = true then A else B := by rw [if_pos rfl]; exact h
theorem ite_f {A B : Prop} (h : B) : if false = true then A else B := by rw [if_neg (by decide)]; exact h
theorem ite_pos {p A B : Prop} {ip : Decidable p} (hp : p) (h : A) : if decide p = true then A else B := by rw [if_pos (decide_eq_true hp)]; exact h
theorem ite_neg {p A B : Prop} {ip : Decidable p} (hp : ¬ p) (h : B) : if decide p = true then A else B := by rw [if_neg (by simpa using hp)]; exact h
theorem ite_npos {p A B : Prop} {ip : Decidable p} (hp : ¬ p) (h : A) : if (!decide p) = true then A else B := by rw [if_pos (by simpa using hp)]; exact h
theorem ite_nneg {p A B : Prop} {ip : Decidable p} (hp : p) (h : B) : if (!decide p) = true then A else B := by rw [if_neg (by simpa using hp)]; exact h
/-! loops -/
/-- the loop's word, said for any walk: J, its turns n, G what stands still, Y what it yields -/
def Loops (J : It) (g : TG) (ts : TS) (nx : L2.St → Hp → Prop) (rt : VK) (σ : L2.St) (H : Hp) : Prop := ∃ W : Nat → Nat → L2.St → Hp → Prop, (∃ m, W 0 m σ H) ∧ ∀ i m σ H, W i m σ H →
      (J.stop i H ∧ nx σ H) ∨ (J.go i H ∧ ∃ N : L2.St → Hp → Prop, (∀ σ' H', N σ' H' → ∃ m', m' < m ∧ W (i + 1) m' σ' H') ∧ ∀ x H', J.yld i H x H' → g x σ H' fun σ2 H2 => ts ⟨N, rt, nx, N⟩ σ2 H2)
theorem s_for {wi : TI} {g : TG} (k : wi σ H fun J H1 => Loops J g ts nx rt σ H1) : tFor wi g ts ⟨nx, rt, bk, ct⟩ σ H := k
theorem s_iRng1 {tr : TA} {R : It → Hp → Prop} (k : tr σ H fun vs H1 => ∃ j : Int, vs = [.int j] ∧ -(2 ^ 62) ≤ j ∧ j < 2 ^ 62 ∧ R (Itr 0 j.toNat) H1) : iRng1 tr σ H R := k
theorem s_iRng2 {tr : TA} {R : It → Hp → Prop} (k : tr σ H fun vs H1 => ∃ i j : Int, vs = [.int i, .int j] ∧ (-(2 ^ 62) ≤ i ∧ i < 2 ^ 62 ∧ -(2 ^ 62) ≤ j ∧ j < 2 ^ 62) ∧ R (Itr i (j - i).toNat) H1) : iRng2 tr σ H R := k
theorem s_iList {R : It → Hp → Prop} (k : te σ H fun x H1 => ∃ a, x = .ref a ∧ (∃ xs, SqL K H1 a xs) ∧ R (Itl K a) H1) : iList K te σ H R := k
theorem s_iTup {R : It → Hp → Prop} (k : te σ H fun x H1 => ∃ a, x = .ref a ∧ (∃ xs, SqT K H1 a xs) ∧ R (Itt K a) H1) : iTup K te σ H R := k
theorem s_iStr {R : It → Hp → Prop} (k : te σ H fun v H1 => ∃ x, v = .str x ∧ R (Its x) H1) : iStr te σ H R := k
theorem s_iEnum {tr : TA} {R : It → Hp → Prop} (k : tr σ H fun vs H1 => ∃ a xs, vs = [.ref a] ∧ SqL K H1 a xs ∧ R (Ite K a) H1) : iEnum K tr σ H R := k
theorem loops_of {J : It} {n : Nat} {G : Hp → Prop} {Y : Nat → Hp → V → Hp → Prop} {g : TG} (w : Walk J n G Y) (Pv : Nat → L2.St → Hp → Prop) (h0 : Pv 0 σ H) (hG : ∀ i σ H, i ≤ n → Pv i σ H → G H)
    (hs : ∀ i x σ H H', i < n → Pv i σ H → Y i H x H' → g x σ H' fun σ2 H2 => ts ⟨Pv (i + 1), rt, nx, Pv (i + 1)⟩ σ2 H2) (hd : ∀ σ H, Pv n σ H → nx σ H) : Loops J g ts nx rt σ H :=
  for_it (D := ⟨nx, rt, fun _ _ => False, fun _ _ => False⟩) w Pv h0 hG hs hd
/-- range(n), as it stands behind the arguments -/
theorem l_range {g : TG} {n : Int} (b : -(2 ^ 62) ≤ n ∧ n < 2 ^ 62) (Pv : Nat → L2.St → Hp → Prop) (h0 : Pv 0 σ H)
    (hs : ∀ (i : Nat) σ H, (i : Int) < n → Pv i σ H → g (.int (i : Int)) σ H fun σ2 H2 => ts ⟨Pv (i + 1), rt, nx, Pv (i + 1)⟩ σ2 H2) (hd : ∀ σ H, Pv n.toNat σ H → nx σ H) :
    ∃ j : Int, [V.int n] = [.int j] ∧ -(2 ^ 62) ≤ j ∧ j < 2 ^ 62 ∧ Loops (Itr 0 j.toNat) g ts nx rt σ H :=
  ⟨n, rfl, b.1, b.2, loops_of walk_range Pv h0 (fun _ _ _ _ _ => trivial) (fun i x σ H H' hi p y => by
    obtain ⟨e, y⟩ := y
    subst e y
    have e0 : (0 : Int) + (i : Int) = (i : Int) := Int.zero_add _
    dsimp only
    rw [e0]
    exact hs i σ _ (by omega) p) hd⟩
/-- range(lo, hi) -/
theorem l_range2 {g : TG} {lo n : Int} (b : -(2 ^ 62) ≤ lo ∧ lo < 2 ^ 62 ∧ -(2 ^ 62) ≤ n ∧ n < 2 ^ 62) (Pv : Nat → L2.St → Hp → Prop) (h0 : Pv 0 σ H)
    (hs : ∀ (i : Nat) σ H, lo + (i : Int) < n → Pv i σ H → g (.int (lo + (i : Int))) σ H fun σ2 H2 => ts ⟨Pv (i + 1), rt, nx, Pv (i + 1)⟩ σ2 H2) (hd : ∀ σ H, Pv (n - lo).toNat σ H → nx σ H) :
    ∃ i j : Int, [V.int lo, V.int n] = [.int i, .int j] ∧ (-(2 ^ 62) ≤ i ∧ i < 2 ^ 62 ∧ -(2 ^ 62) ≤ j ∧ j < 2 ^ 62) ∧ Loops (Itr i (j - i).toNat) g ts nx rt σ H :=
  ⟨lo, n, rfl, b, loops_of walk_range Pv h0 (fun _ _ _ _ _ => trivial) (fun i x σ H H' hi p y => by
    obtain ⟨e, y⟩ := y
    subst e y
    exact hs i σ _ (by omega) p) hd⟩
/-- a list -/
theorem l_list {g : TG} {a : Addr} (xs : List V) (Pv : Nat → L2.St → Hp → Prop) (h0 : Pv 0 σ H) (hG : ∀ i σ H, i ≤ xs.length → Pv i σ H → SqL K H a xs)
    (hs : ∀ i x σ H, xs[i]? = some x → Pv i σ H → g x σ H fun σ2 H2 => ts ⟨Pv (i + 1), rt, nx, Pv (i + 1)⟩ σ2 H2) (hd : ∀ σ H, Pv xs.length σ H → nx σ H) :
    ∃ a', V.ref a = .ref a' ∧ (∃ xs, SqL K H a' xs) ∧ Loops (Itl K a') g ts nx rt σ H :=
  ⟨a, rfl, ⟨xs, hG 0 σ H (Nat.zero_le _) h0⟩, loops_of walk_list Pv h0 hG (fun i x σ H H' hi p y => by
    obtain ⟨e, y⟩ := y
    subst e
    exact hs i x σ _ y p) hd⟩
/-- a tuple -/
theorem l_tup {g : TG} {a : Addr} (xs : List V) (Pv : Nat → L2.St → Hp → Prop) (h0 : Pv 0 σ H) (hG : ∀ i σ H, i ≤ xs.length → Pv i σ H → SqT K H a xs)
    (hs : ∀ i x σ H, xs[i]? = some x → Pv i σ H → g x σ H fun σ2 H2 => ts ⟨Pv (i + 1), rt, nx, Pv (i + 1)⟩ σ2 H2) (hd : ∀ σ H, Pv xs.length σ H → nx σ H) :
    ∃ a', V.ref a = .ref a' ∧ (∃ xs, SqT K H a' xs) ∧ Loops (Itt K a') g ts nx rt σ H :=
  ⟨a, rfl, ⟨xs, hG 0 σ H (Nat.zero_le _) h0⟩, loops_of walk_tup Pv h0 hG (fun i x σ H H' hi p y => by
    obtain ⟨e, y⟩ := y
    subst e
    exact hs i x σ _ y p) hd⟩
/-- a text -/
theorem l_str {g : TG} {z : Str} (Pv : Nat → L2.St → Hp → Prop) (h0 : Pv 0 σ H)
    (hs : ∀ i c σ H, z.cps[i]? = some c → Pv i σ H → g (.str ⟨#[c]⟩) σ H fun σ2 H2 => ts ⟨Pv (i + 1), rt, nx, Pv (i + 1)⟩ σ2 H2) (hd : ∀ σ H, Pv z.cps.size σ H → nx σ H) :
    ∃ x, V.str z = .str x ∧ Loops (Its x) g ts nx rt σ H :=
  ⟨z, rfl, loops_of walk_str Pv h0 (fun _ _ _ _ _ => trivial) (fun i x σ H H' hi p y => by
    obtain ⟨e, c, y1, y2⟩ := y
    subst e y2
    exact hs i c σ _ y1 p) hd⟩
/-- a while's turn: behind it the word holds at a lesser measure -/
def WhB (W : Nat → L2.St → Hp → Prop) (m : Nat) (ts : TS) (rt : VK) (nx : L2.St → Hp → Prop) (σ : L2.St) (H : Hp) : Prop := ∃ N : L2.St → Hp → Prop, (∀ σ' H', N σ' H' → ∃ m', m' < m ∧ W m' σ' H') ∧ ts ⟨N, rt, nx, N⟩ σ H
theorem s_whB {W : Nat → L2.St → Hp → Prop} {m : Nat} (k : ts ⟨fun σ' H' => ∃ m', m' < m ∧ W m' σ' H', rt, nx, fun σ' H' => ∃ m', m' < m ∧ W m' σ' H'⟩ σ H) : WhB W m ts rt nx σ H := ⟨_, fun _ _ h => h, k⟩
/-- a while: its word and its measure -/
theorem l_while (W : Nat → L2.St → Hp → Prop) (h0 : ∃ m, W m σ H)
    (hs : ∀ m σ H, W m σ H → t σ H fun b H1 => if b = true then WhB W m ts rt nx σ H1 else nx σ H1) : tWhile t ts ⟨nx, rt, bk, ct⟩ σ H := ⟨W, h0, hs⟩
end

/-! ### heaps -/
/-- all but what stands at b -/
def Fr (b : Addr) (H H' : Hp) : Prop := ∀ a o, a ≠ b → H a = some o → H' a = some o
theorem Ex.refl {H : Hp} : Ex H H := fun _ _ h => h
theorem Ex.trans {H H1 H2 : Hp} (a : Ex H H1) (b : Ex H1 H2) : Ex H H2 := fun x o h => b x o (a x o h)
theorem Ex.mut {H H' : Hp} {p : Addr} {o : HO} (e : Ex H H') (h : H p = none) : Ex H (upd H' p o) := fun a u ha => by
  rw [upd_ne (ne_of_none ha h)]
  exact e a u ha
theorem Ex.back {H H' : Hp} {p : Addr} (e : Ex H H') (h : H' p = none) : H p = none := by
  cases h1 : H p with
  | none => rfl
  | some o =>
    rw [e p o h1] at h
    cases h
theorem Ex.fr {H H' : Hp} (b : Addr) (e : Ex H H') : Fr b H H' := fun a o _ h => e a o h
theorem Fr.refl {b : Addr} {H : Hp} : Fr b H H := fun _ _ _ h => h
theorem Fr.trans {b : Addr} {H H1 H2 : Hp} (x : Fr b H H1) (y : Fr b H1 H2) : Fr b H H2 := fun a o n h => y a o n (x a o n h)
theorem Fr.upd {b : Addr} {H : Hp} {o : HO} : Fr b H (upd H b o) := fun a u n h => by
  rw [upd_ne n]
  exact h
theorem Ex.sqL {K : PySem.W.Frag} {H H' : Hp} {a : Addr} {xs : List V} (e : Ex H H') (h : SqL K H a xs) : SqL K H' a xs := by
  rcases h with (h | ⟨o, h⟩) | h
  · exact .inl (.inl (e _ _ h))
  · exact .inl (.inr ⟨o, e _ _ h⟩)
  · exact .inr h
theorem Ex.sqT {K : PySem.W.Frag} {H H' : Hp} {a : Addr} {xs : List V} (e : Ex H H') (h : SqT K H a xs) : SqT K H' a xs := by
  rcases h with (h | ⟨o, h⟩) | h
  · exact .inl (.inl (e _ _ h))
  · exact .inl (.inr ⟨o, e _ _ h⟩)
  · exact .inr h
theorem sqL_ex {K : PySem.W.Frag} {H H' : Hp} {a : Addr} {xs : List V} (h : SqL K H a xs) (e : Ex H H') : SqL K H' a xs := e.sqL h
theorem sqT_ex {K : PySem.W.Frag} {H H' : Hp} {a : Addr} {xs : List V} (h : SqT K H a xs) (e : Ex H H') : SqT K H' a xs := e.sqT h
/-- the heap without what stands at b -/
def wo (b : Addr) (H : Hp) : Hp := fun a => if a = b then none else H a
theorem wo_some {b a : Addr} {H : Hp} {o : HO} (h : wo b H a = some o) : a ≠ b ∧ H a = some o := by
  unfold wo at h
  split at h
  · cases h
  · exact ⟨by assumption, h⟩
theorem wo_mk {b a : Addr} {H : Hp} {o : HO} (n : a ≠ b) (h : H a = some o) : wo b H a = some o := by
  unfold wo
  rw [if_neg n]
  exact h
theorem wo_ex {b : Addr} {H : Hp} : Ex (wo b H) H := fun _ _ h => (wo_some h).2
theorem Fr.wo {b : Addr} {H H' : Hp} (e : Fr b H H') : Ex (Z.wo b H) (Z.wo b H') := fun a o h => wo_mk (wo_some h).1 (e a o (wo_some h).1 (wo_some h).2)
theorem Ex.wo {b : Addr} {H H' : Hp} (e : Ex H H') : Ex (Z.wo b H) (Z.wo b H') := (e.fr b).wo
theorem ex_at {H H' : Hp} {a : Addr} {o : HO} (e : Ex H H') (h : H a = some o) : H' a = some o := e a o h
theorem fr_at {b : Addr} {H H' : Hp} {a : Addr} {o : HO} (e : Fr b H H') (n : a ≠ b) (h : H a = some o) : H' a = some o := e a o n h
theorem fr_none {b : Addr} {H H' : Hp} {l : Addr} (e : Fr b H H') (h : H' l = none) (n : l ≠ b) : H l = none := by
  cases q : H l with
  | none => rfl
  | some o =>
    rw [e l o n q] at h
    cases h
theorem upd_at {H : Hp} {a b : Addr} {o u : HO} (n : b ≠ a) (h : H b = some u) : upd H a o b = some u := by
  rw [upd_ne n]
  exact h
theorem ref_ne {a b : Addr} (h : V.ref a ≠ V.ref b) : a ≠ b := fun e => h (by rw [e])
/-! ### readings by name -/
def rLen (K : PySem.W.Frag) : List V → Hp → VK → Prop := fun xs H Q => ∃ p ys, xs = [.ref p] ∧ (SqL K H p ys ∨ SqT K H p ys) ∧ Q (.int ys.length) H
def rLenStr : List V → Hp → VK → Prop := fun xs H Q => ∃ z, xs = [.str z] ∧ z.length ≤ sizeLine ∧ Q (.int z.length) H
def rAbs : List V → Hp → VK → Prop := fun xs H Q => ∃ i, xs = [.int i] ∧ Q (.int (if i < 0 then -i else i)) H
def rMax2 : List V → Hp → VK → Prop := fun xs H Q => ∃ i j, xs = [.int i, .int j] ∧ Q (.int (if j > i then j else i)) H
def rMin2 : List V → Hp → VK → Prop := fun xs H Q => ∃ i j, xs = [.int i, .int j] ∧ Q (.int (if j < i then j else i)) H
def rInt1 : List V → Hp → VK → Prop := fun xs H Q => (∃ i, xs = [.int i] ∧ Q (.int i) H) ∨ ∃ k, xs = [.bl k] ∧ Q (.int (if k then 1 else 0)) H
def rStrInt : List V → Hp → VK → Prop := fun xs H Q => ∃ i : Int, xs = [.int i] ∧ i.natAbs.log2 < 1920 ∧ Q (.str (toString i)) H
def rListOf (K : PySem.W.Frag) : List V → Hp → VK → Prop := fun xs H Q => ∃ p ys, xs = [.ref p] ∧ (SqL K H p ys ∨ SqT K H p ys) ∧ ∀ l, H l = none → Q (.ref l) (upd H l (.lst ys))
def rTupleOf (K : PySem.W.Frag) : List V → Hp → VK → Prop := fun xs H Q => ∃ p ys, xs = [.ref p] ∧ ((SqL K H p ys ∧ ∀ l, H l = none → Q (.ref l) (upd H l (.tup ys))) ∨ (SqT K H p ys ∧ Q (.ref p) H))
def rDivmod : List V → Hp → VK → Prop := fun xs H Q => ∃ i j, xs = [.int i, .int j] ∧ CDiv i j ∧ ∀ p, H p = none → Q (.ref p) (upd H p (.tup [.int (i / j), .int (i % j)]))
def rAddStr : R2 := fun x y H Q => ∃ i j, x = .str i ∧ y = .str j ∧ i.length + j.length ≤ sizeLine ∧ Q (.str (i ++ j)) H
def rFind : V → List V → Hp → VK → Prop := fun x xs H Q => ∃ a b, x = .str a ∧ xs = [.str b] ∧ Q (.int (Txt.find a b)) H
def rRjust : V → List V → Hp → VK → Prop := fun x xs H Q => ∃ (a : Str) (i : Int), x = .str a ∧ xs = [.int i] ∧ PadOk i = true ∧ Q (.str (Txt.rjust a i)) H
section
variable {X : Cx}
theorem cz_len : CallR X (.builtin "len") (rLen X.K) := call_len_seq
theorem cz_lenStr : CallR X (.builtin "len") rLenStr := call_len_str
theorem cz_abs : CallR X (.builtin "abs") rAbs := call_abs
theorem cz_max2 (hc : X.calm = true) : CallR X (.builtin "max") rMax2 := call_max2 hc
theorem cz_min2 (hc : X.calm = true) : CallR X (.builtin "min") rMin2 := call_min2 hc
theorem cz_int1 : CallR X (.type "int") rInt1 := call_int1
theorem cz_strInt : CallR X (.type "str") rStrInt := call_str_int
theorem cz_listOf : CallR X (.type "list") (rListOf X.K) := call_list_of
theorem cz_tupleOf : CallR X (.type "tuple") (rTupleOf X.K) := call_tuple_of
theorem cz_divmod : CallR X (.builtin "divmod") rDivmod := call_divmod
theorem oz_addStr : OpR X (binaryOp .Add) rAddStr := op_add_str
theorem mz_find : MtR X "str.find" rFind := mt_find
def rRjust2 : V → List V → Hp → VK → Prop := fun x xs H Q => ∃ (a f : Str) (i : Int), x = .str a ∧ xs = [.int i, .str f] ∧ (PadOk i = true ∧ f.length = 1) ∧ Q (.str (Txt.rjustF a i (f.cps.getD 0 0))) H
theorem mz_rjust2 : MtR X "str.rjust" rRjust2 := by
  intro pins s σ H x xs v us Q I rx rs h
  obtain ⟨a, f, i, rfl, rfl, hc, h⟩ := h
  obtain ⟨t, rfl⟩ := rx
  cases rs with
  | cons r1 rs =>
    cases rs with
    | cons r2 rs =>
      cases rs
      obtain ⟨u, rfl⟩ := r1
      obtain ⟨z, rfl⟩ := r2
      exact PyProof.Rows.rjust_fill hc.1 hc.2 fun t' k => ⟨V.str (Txt.rjustF a i (f.cps.getD 0 0)), H, I.tok k, ⟨t', rfl⟩, h⟩
def rJoin (K : PySem.W.Frag) : V → List V → Hp → VK → Prop := fun x xs H Q => ∃ a p, ∃ ys : List Str, x = .str a ∧ xs = [.ref p] ∧ (SqL K H p (ys.map V.str) ∨ SqT K H p (ys.map V.str)) ∧
      (ys.map (·.length)).sum + ys.length * a.length ≤ 16777216 ∧ Q (.str (Txt.join a ys)) H
theorem mz_join : MtR X "str.join" (rJoin X.K) := mt_join
def rUpper : V → List V → Hp → VK → Prop := fun x xs H Q => ∃ a, x = .str a ∧ xs = [] ∧ a.length ≤ 5592405 ∧ Q (.str (Txt.upper a)) H
theorem mz_upper : MtR X "str.upper" rUpper := mt_upper
def rMulS : R2 := fun x y H Q => ∃ (a : Str) (n : Int), x = .str a ∧ y = .int n ∧ MulOk a n ∧ Q (.str (Txt.mul a n)) H
theorem oz_mulS : OpR X (binaryOp .Mult) rMulS := by
  intro pins s σ H x y v u Q I rx ry h
  obtain ⟨a, n, rfl, rfl, hc, h⟩ := h
  obtain ⟨t, rfl⟩ := rx
  obtain ⟨z, rfl⟩ := ry
  exact PySem.SB.mul hc fun t' k => ⟨V.str (Txt.mul a n), H, I.tok k, ⟨t', rfl⟩, h⟩
def tFS (ts : List TE) : TE := fun σ H Q => tJs ts Str.empty σ H fun out H1 => Q (.str out) H1
theorem pz_fstr {v1 v2 : Expr} {rest : List Expr} {ts : List TE} {pos : Pos} (h : PJ X (v1 :: v2 :: rest) ts) : PE X (.JoinedStr (v1 :: v2 :: rest) pos) (tFS ts) := pe_joined h
def rSindex : V → List V → Hp → VK → Prop := fun x xs H Q => ∃ a b i rest, x = .str a ∧ xs = [.str b] ∧ Builtin.Str.occurrences a b 0 a.length 1 = i :: rest ∧ Q (.int (i : Nat)) H
theorem mz_sindex : MtR X "str.index" rSindex := mt_sindex
theorem mz_rjust : MtR X "str.rjust" rRjust := mt_rjust
end
section
variable {K : PySem.W.Frag} {H : Hp} {Q : VK} {x : V}
theorem s_tyS {z : Str} {R : Prop} (k : R) : tyV K "str" (.str z) H ∧ R := ⟨by show "str" = "str"; rfl, k⟩
theorem s_tyL {a : Addr} {xs : List V} {R : Prop} (h : SqL K H a xs) (k : R) : tyV K "list" (.ref a) H ∧ R := ⟨.inl ⟨rfl, _, h⟩, k⟩
theorem s_rLen {p : Addr} {xs : List V} (h : SqL K H p xs ∨ SqT K H p xs) (k : Q (.int xs.length) H) : rLen K [.ref p] H Q := ⟨p, xs, rfl, h, k⟩
theorem s_rLenStr {z : Str} (h : z.length ≤ sizeLine) (k : Q (.int z.length) H) : rLenStr [.str z] H Q := ⟨z, rfl, h, k⟩
theorem s_rAbs {i : Int} (k : Q (.int (if i < 0 then -i else i)) H) : rAbs [.int i] H Q := ⟨i, rfl, k⟩
theorem s_rMax2 {i j : Int} (k : Q (.int (if j > i then j else i)) H) : rMax2 [.int i, .int j] H Q := ⟨i, j, rfl, k⟩
theorem s_rMin2 {i j : Int} (k : Q (.int (if j < i then j else i)) H) : rMin2 [.int i, .int j] H Q := ⟨i, j, rfl, k⟩
theorem s_rInt1 {i : Int} (k : Q (.int i) H) : rInt1 [.int i] H Q := .inl ⟨i, rfl, k⟩
theorem s_rIntB {c : Bool} (k : Q (.int (if c then 1 else 0)) H) : rInt1 [.bl c] H Q := .inr ⟨c, rfl, k⟩
theorem s_rStrInt {i : Int} (h : i.natAbs.log2 < 1920) (k : Q (.str (toString i)) H) : rStrInt [.int i] H Q := ⟨i, rfl, h, k⟩
theorem s_rListOf {p : Addr} {xs : List V} (h : SqL K H p xs ∨ SqT K H p xs) (k : NewO (.lst xs) H Q) : rListOf K [.ref p] H Q := ⟨p, xs, rfl, h, k⟩
theorem s_rTupleOf {p : Addr} {xs : List V} (h : SqL K H p xs) (k : NewO (.tup xs) H Q) : rTupleOf K [.ref p] H Q := ⟨p, xs, rfl, .inl ⟨h, k⟩⟩
theorem s_rDivmod {i j : Int} (h : CDiv i j) (k : NewO (.tup [.int (i / j), .int (i % j)]) H Q) : rDivmod [.int i, .int j] H Q := ⟨i, j, rfl, h, k⟩
theorem s_rAddStr {a b : Str} (h : a.length + b.length ≤ sizeLine) (k : Q (.str (a ++ b)) H) : rAddStr (.str a) (.str b) H Q := ⟨a, b, rfl, rfl, h, k⟩
theorem s_rFind {a b : Str} (k : Q (.int (Txt.find a b)) H) : rFind (.str a) [.str b] H Q := ⟨a, b, rfl, rfl, k⟩
theorem s_rJoin {a : Str} {p : Addr} {xs : List V} (ys : List Str) (h : SqL K H p xs ∨ SqT K H p xs) (e : xs = ys.map V.str) (z : (ys.map (·.length)).sum + ys.length * a.length ≤ 16777216) (k : Q (.str (Txt.join a ys)) H) : rJoin K (.str a) [.ref p] H Q := ⟨a, p, ys, rfl, rfl, by rw [← e]; exact h, z, k⟩
def RevV (K : PySem.W.Frag) (x : V) (H : Hp) (Q : VK) : Prop := ∃ a xs, x = .ref a ∧ SqL K H a xs ∧ ∀ p, H p = none → Q (.ref p) (upd H p (.lst xs.reverse))
theorem s_tRevL {te : TE} {σ : L2.St} (k : te σ H fun x H1 => RevV K x H1 Q) : tRevL K te σ H Q := k
theorem s_revV {a : Addr} {xs : List V} (h : SqL K H a xs) (k : NewO (.lst xs.reverse) H Q) : RevV K (.ref a) H Q := ⟨a, xs, rfl, h, k⟩
def AppV (x : V) (vs : List V) (H : Hp) (Q : VK) : Prop := rAppend x vs H Q
theorem s_app {l : Addr} {xs : List V} {y : V} (h : H l = some (.lst xs)) (z : xs.length < sizeLine) (k : ∀ H', Fr l H H' → H' l = some (.lst (xs ++ [y])) → Q .non H') : rAppend (.ref l) [y] H Q := ⟨l, xs, y, rfl, rfl, h, z, k _ Fr.upd upd_same⟩
theorem s_rRjust2 {a f : Str} {i : Int} (h : PadOk i = true ∧ f.length = 1) (k : Q (.str (Txt.rjustF a i (f.cps.getD 0 0))) H) : rRjust2 (.str a) [.int i, .str f] H Q := ⟨a, f, i, rfl, rfl, h, k⟩
theorem s_rRjust {a : Str} {i : Int} (h : PadOk i = true) (k : Q (.str (Txt.rjust a i)) H) : rRjust (.str a) [.int i] H Q := ⟨a, i, rfl, rfl, h, k⟩
theorem s_rAll {K : PySem.W.Frag} {p : Addr} (bs : List Bool) {xs : List V} (h : SqL K H p xs) (e : xs = bs.map V.bl) (k : Q (.bl (bs.all id)) H) : rAll K [.ref p] H Q := ⟨p, bs, rfl, by rw [← e]; exact h, k⟩
theorem s_rUpper {a : Str} (h : a.length ≤ 5592405) (k : Q (.str (Txt.upper a)) H) : rUpper (.str a) [] H Q := ⟨a, rfl, rfl, h, k⟩
theorem s_rMulS {a : Str} {n : Int} (h : MulOk a n) (k : Q (.str (Txt.mul a n)) H) : rMulS (.str a) (.int n) H Q := ⟨a, n, rfl, rfl, h, k⟩
def FmtV (x : V) (H : Hp) (Q : VK) : Prop := (∃ y : Str, x = .str y ∧ y.length ≤ sizeLine ∧ Q (.str y) H) ∨ ∃ i : Int, x = .int i ∧ i.natAbs.log2 < 1920 ∧ Q (.str (toString i)) H
def JsV (x : V) (acc : Str) (ts : List TE) (σ : L2.St) (H : Hp) (R : Str → Hp → Prop) : Prop := ∃ y : Str, x = .str y ∧ (acc ++ y).length ≤ sizeLine ∧ tJs ts (acc ++ y) σ H R
theorem s_tFmt {te : TE} {σ : L2.St} (k : te σ H fun x H1 => FmtV x H1 Q) : tFmt te σ H Q := k
theorem s_fmtS {y : Str} (h : y.length ≤ sizeLine) (k : Q (.str y) H) : FmtV (.str y) H Q := .inl ⟨y, rfl, h, k⟩
theorem s_fmtI {i : Int} (h : i.natAbs.log2 < 1920) (k : Q (.str (toString i)) H) : FmtV (.int i) H Q := .inr ⟨i, rfl, h, k⟩
theorem s_tFS {ts : List TE} {σ : L2.St} (k : tJs ts Str.empty σ H fun out H1 => Q (.str out) H1) : tFS ts σ H Q := k
theorem s_jsNil {acc : Str} {σ : L2.St} {R : Str → Hp → Prop} (k : R acc H) : tJs [] acc σ H R := k
theorem s_jsCons {t : TE} {ts : List TE} {acc : Str} {σ : L2.St} {R : Str → Hp → Prop} (k : t σ H fun x H1 => JsV x acc ts σ H1 R) : tJs (t :: ts) acc σ H R := k
theorem s_jsV {y acc : Str} {ts : List TE} {σ : L2.St} {R : Str → Hp → Prop} (h : (acc ++ y).length ≤ sizeLine) (k : tJs ts (acc ++ y) σ H R) : JsV (.str y) acc ts σ H R := ⟨y, rfl, h, k⟩
theorem s_rSindex {a b : Str} {i : Nat} {rest : List Nat} (h : Builtin.Str.occurrences a b 0 a.length 1 = i :: rest) (k : Q (.int (i : Nat)) H) : rSindex (.str a) [.str b] H Q := ⟨a, b, i, rest, rfl, rfl, h, k⟩
theorem s_rNotInS {c : Nat} {z : Str} (k : Q (.bl (!decide (c ∈ z.cps.toList))) H) : rNotInS (.str ⟨#[c]⟩) (.str z) H Q := ⟨c, z, rfl, rfl, k⟩
theorem s_rInS {c : Nat} {z : Str} (k : Q (.bl (decide (c ∈ z.cps.toList))) H) : rInS (.str ⟨#[c]⟩) (.str z) H Q := ⟨c, z, rfl, rfl, k⟩
theorem s_catA {K : PySem.W.Frag} {a b : Addr} {xs ys : List V} (h1 : SqT K H a xs) (h2 : SqT K H b ys) (hx : xs ≠ []) (hy : ys ≠ []) (hz : xs.length + ys.length ≤ sizeLine) (k : NewO (.tup (xs ++ ys)) H Q) : rCatA K (.ref a) (.ref b) H Q :=
  ⟨a, b, xs, ys, rfl, rfl, h1, h2, hz, fun e => absurd e hx, fun _ e => absurd e hy, fun _ _ => k⟩
theorem s_slT {K : PySem.W.Frag} {a : Addr} {xs : List V} {lo hi : Option Int} (n : Nat) (ys : List V) (h : SqT K H a xs) (hn : xs.length = n) (hw : ¬ (HT.sIx n 0 lo = 0 ∧ HT.sIx n n hi = n)) (e : cutV xs lo hi = ys) (k : NewO (.tup ys) H Q) : rSlT K (.ref a) lo hi H Q := ⟨a, xs, rfl, h, by rw [hn]; exact hw, by rw [e]; exact k⟩
theorem s_rInSeq {K : PySem.W.Frag} {p : Addr} {xs : List V} (h : SqL K H p xs ∨ SqT K H p xs) (f1 : flatV x = true) (f2 : xs.all flatV = true) (k : Q (.bl (inV x xs)) H) : rIn K false x (.ref p) H Q := ⟨p, xs, rfl, h, f1, f2, k⟩
theorem s_rNotInSeq {K : PySem.W.Frag} {p : Addr} {xs : List V} (h : SqL K H p xs ∨ SqT K H p xs) (f1 : flatV x = true) (f2 : xs.all flatV = true) (k : Q (.bl (!inV x xs)) H) : rIn K true x (.ref p) H Q := ⟨p, xs, rfl, h, f1, f2, k⟩
theorem s_rIsN (k : Q (.bl (decide (x = .non))) H) : rIsN x .non H Q := ⟨rfl, k⟩
theorem s_rNotN (k : Q (.bl (!decide (x = .non))) H) : rNotN x .non H Q := ⟨rfl, k⟩
end

/-! ### texts as their codes -/
def T (l : List Nat) : Str := ⟨l.toArray⟩
theorem T_len (l : List Nat) : (T l).length = l.length := by
  show (l.toArray).size = _
  simp
theorem T_app (a b : List Nat) : T a ++ T b = T (a ++ b) := by
  show (⟨a.toArray ++ b.toArray⟩ : Str) = ⟨(a ++ b).toArray⟩
  simp
theorem T_one (c : Nat) : (⟨#[c]⟩ : Str) = T [c] := rfl
theorem T_cps (l : List Nat) : (T l).cps.toList = l := by
  show l.toArray.toList = l
  simp
theorem T_inj {a b : List Nat} (h : T a = T b) : a = b := by
  have e := congrArg (fun s : Str => s.cps.toList) h
  rw [T_cps, T_cps] at e
  exact e
theorem at0 {α : Type} (c : α) (r : List α) : atI (c :: r) (0 : Int) = some c := atI_nat (xs := c :: r) (j := 0) rfl
theorem at_ex {α : Type} (l : List α) {z : Int} (h0 : 0 ≤ z) (h1 : z < l.length) : ∃ c, atI l z = some c := by
  obtain ⟨n, rfl⟩ : ∃ n : Nat, z = n := ⟨z.toNat, by omega⟩
  exact ⟨l[n]'(by omega), atI_nat (List.getElem?_eq_getElem (by omega))⟩
/-- an item at an open place: what is true of all items -/
theorem s_ixP {K : PySem.W.Frag} {p : Addr} {xs : List V} {z : Int} {H : Hp} {Q : VK} (P : V → Prop) (h : SqL K H p xs) (hz : 0 ≤ z ∧ z < xs.length) (hP : ∀ v ∈ xs, P v) (k : ∀ v, P v → Q v H) : rIxL K (.ref p) (.int z) H Q := by
  obtain ⟨v, hv⟩ := at_ex xs hz.1 hz.2
  obtain ⟨j, _, hj, _⟩ := atI_get hv
  exact ⟨p, xs, z, v, rfl, rfl, h, hv, k v (hP v (List.mem_of_getElem? hj))⟩
/-- an item at an open place: what is true of all items -/
theorem s_ixPT {K : PySem.W.Frag} {p : Addr} {xs : List V} {z : Int} {H : Hp} {Q : VK} (P : V → Prop) (h : SqT K H p xs) (hz : 0 ≤ z ∧ z < xs.length) (hP : ∀ v ∈ xs, P v) (k : ∀ v, P v → Q v H) : rIxT K (.ref p) (.int z) H Q := by
  obtain ⟨v, hv⟩ := at_ex xs hz.1 hz.2
  obtain ⟨j, _, hj, _⟩ := atI_get hv
  exact ⟨p, xs, z, v, rfl, rfl, h, hv, k v (hP v (List.mem_of_getElem? hj))⟩
theorem s_ixS {z : Str} {a : Int} {c : Nat} {H : Hp} {Q : VK} (hz : z.length ≤ sizeLine) (e : atI z.cps.toList a = some c) (k : Q (.str ⟨#[c]⟩) H) : rIxS (.str z) (.int a) H Q := ⟨z, a, c, rfl, rfl, hz, e, k⟩
theorem T_rjust (l : List Nat) (n c : Nat) : Txt.rjustF (T l) (n : Int) c = T (List.replicate (n - l.length) c ++ l) := by
  unfold Txt.rjustF
  rw [T_len]
  split
  · rw [show n - l.length = 0 from by omega]
    rfl
  · show (⟨Array.replicate _ c ++ l.toArray ++ Array.replicate 0 c⟩ : Str) = _
    rw [Int.toNat_natCast]
    unfold T
    congr 1
    rw [← List.toArray_replicate]
    simp
/-! ### new objects -/
theorem sz {n : Nat} (h : n ≤ 100000) : n ≤ sizeLine := Nat.le_trans h (by decide)
theorem szl {n : Nat} (h : n ≤ 100000) : n < sizeLine := Nat.lt_of_le_of_lt h (by decide)

theorem s_setN {H : Hp} {v : V} {p : Addr} {xs : List V} {a : Int} {m : Nat} {R : Hp → Prop} (h : H p = some (.lst xs)) (e : ixN xs.length a = some m) (ys : List V) (hy : xs.set m v = ys) (k : ∀ H', Fr p H H' → H' p = some (.lst ys) → R H') : rSetL (.ref p) (.int a) v H R :=
  ⟨p, xs, a, m, rfl, rfl, h, e, by rw [hy]; exact k _ Fr.upd upd_same⟩
/-! ### the drawing bag -/
structure Bag (H : Hp) (b c : Addr) : Prop where
  ex : ∃ (cells : List Int) (i : Nat) (big salt : Int), H b = some (.lst [.ref c, .int i, .int big, .int salt]) ∧ H c = some (.lst (cells.map V.int)) ∧ i ≤ cells.length ∧ 0 ≤ big ∧ 0 ≤ salt ∧ salt < 2147483647
theorem bag_ne {H : Hp} {b c : Addr} {xs : List V} {cells : List Int} (h1 : H b = some (.lst (.ref c :: xs))) (h2 : H c = some (.lst (cells.map V.int))) : c ≠ b := by
  intro e
  subst e
  rw [h1] at h2
  injection h2 with h2
  injection h2 with h2
  cases cells with
  | nil => cases h2
  | cons y ys => injection h2 with h2; cases h2
theorem Bag.getb {H : Hp} {b c : Addr} (B : Bag H b c) : ∃ xs, H b = some (.lst xs) := by
  obtain ⟨_, _, _, _, h, _⟩ := B.ex
  exact ⟨_, h⟩
theorem Bag.getc {H : Hp} {b c : Addr} (B : Bag H b c) : ∃ xs, H c = some (.lst xs) := by
  obtain ⟨_, _, _, _, _, h, _⟩ := B.ex
  exact ⟨_, h⟩
theorem Bag.neb {H : Hp} {b c p : Addr} (B : Bag H b c) (h : H p = none) : p ≠ b := by
  obtain ⟨_, q⟩ := B.getb
  exact (ne_of_none q h).symm
theorem Bag.nec {H : Hp} {b c p : Addr} (B : Bag H b c) (h : H p = none) : p ≠ c := by
  obtain ⟨_, q⟩ := B.getc
  exact (ne_of_none q h).symm
theorem neb_of {H : Hp} {b c p : Addr} (h : H p = none) (B : Bag H b c) : p ≠ b := B.neb h
theorem nec_of {H : Hp} {b c p : Addr} (h : H p = none) (B : Bag H b c) : p ≠ c := B.nec h
theorem Bag.cb {H : Hp} {b c : Addr} (B : Bag H b c) : c ≠ b := by
  obtain ⟨_, _, _, _, h1, h2, _⟩ := B.ex
  exact bag_ne h1 h2
theorem Bag.ext {H H' : Hp} {b c : Addr} (B : Bag H b c) (e : Ex H H') : Bag H' b c := by
  obtain ⟨cells, i, big, salt, h1, h2, r⟩ := B.ex
  exact ⟨cells, i, big, salt, e _ _ h1, e _ _ h2, r⟩
theorem Bag.frs {H H' : Hp} {b c D : Addr} (B : Bag H b c) (n1 : D ≠ b) (n2 : D ≠ c) (e : Fr D H H') : Bag H' b c := by
  obtain ⟨cells, i, big, salt, h1, h2, r⟩ := B.ex
  exact ⟨cells, i, big, salt, e _ _ n1.symm h1, e _ _ n2.symm h2, r⟩
theorem Bag.mk' {H : Hp} {b c : Addr} {cells : List Int} {i : Nat} {big salt : Int} (h1 : H b = some (HO.lst [.ref c, .int i, .int big, .int salt])) (h2 : H c = some (HO.lst (cells.map V.int))) (h3 : i ≤ cells.length) (h4 : 0 ≤ big) (h5 : 0 ≤ salt ∧ salt < 2147483647) : Bag H b c :=
  ⟨cells, i, big, salt, h1, h2, h3, h4, h5.1, h5.2⟩
def spPull : Sp := fun vs H Q _ => ∃ (b c : Addr) (n : Int), vs = [.ref b, .int n] ∧ Bag H b c ∧ 0 < n ∧ n < 2 ^ 200 ∧ ∀ z H', 0 ≤ z → z < n → Bag H' b c → Fr b H H' → Q (.int z) H'
def spBag (K : PySem.W.Frag) : Sp := fun vs H Q _ => ∃ (a : Addr) (ns : List Int), vs = [.ref a] ∧ SqL K H a (ns.map V.int) ∧ ns.length ≤ 63 ∧ ∀ b c H', H b = none → H c = none → Ex H H' → Bag H' b c → Q (.ref b) H'
theorem use_pull {H : Hp} {b c : Addr} {n : Int} {Q : VK} {E : XK} (B : Bag H b c) (h : 0 < n ∧ n < 2 ^ 200) (k : ∀ z H', 0 ≤ z → z < n → Bag H' b c → Fr b H H' → Q (.int z) H') : spPull ([.ref b, .int n] ++ []) H Q E :=
  ⟨b, c, n, rfl, B, h.1, h.2, k⟩

/-! ### what cannot change: the heap without the addresses that may -/
def wos (M : List Addr) (H : Hp) : Hp := fun a => if a ∈ M then none else H a
theorem wos_some {M : List Addr} {a : Addr} {H : Hp} {o : HO} (h : wos M H a = some o) : a ∉ M ∧ H a = some o := by
  unfold wos at h
  split at h
  · cases h
  · exact ⟨by assumption, h⟩
theorem wos_mk {M : List Addr} {a : Addr} {H : Hp} {o : HO} (n : a ∉ M) (h : H a = some o) : wos M H a = some o := by
  unfold wos
  rw [if_neg n]
  exact h
theorem wos_ex {M : List Addr} {H : Hp} : Ex (wos M H) H := fun _ _ h => (wos_some h).2
theorem wos_nil {H : Hp} : Ex H (wos [] H) := fun _ _ h => wos_mk (by simp) h
theorem Ex.wos {M : List Addr} {H H' : Hp} (e : Ex H H') : Ex (Z.wos M H) (Z.wos M H') := fun a o h => wos_mk (wos_some h).1 (e a o (wos_some h).2)
theorem Fr.wos {M : List Addr} {b : Addr} {H H' : Hp} (e : Fr b H H') (hb : b ∈ M) : Ex (Z.wos M H) (Z.wos M H') := fun a o h =>
  wos_mk (wos_some h).1 (e a o (fun q => (wos_some h).1 (by rw [q]; exact hb)) (wos_some h).2)
/-- an address more that may change: it is new -/
theorem wos_more {M : List Addr} {D : Addr} {H H' : Hp} (e : Ex H H') (n : H D = none) : Ex (wos M H) (wos (D :: M) H') := fun a o h => by
  have h1 := wos_some h
  refine wos_mk ?_ (e _ _ h1.2)
  intro q
  rcases List.mem_cons.mp q with q | q
  · rw [q, n] at h1
    cases h1.2
  · exact h1.1 q
/-- one that has come to rest -/
theorem wos_less {M : List Addr} {D : Addr} {H : Hp} : Ex (wos (D :: M) H) (wos M H) := fun _ _ h => wos_mk (fun q => (wos_some h).1 (List.mem_cons_of_mem _ q)) (wos_some h).2
theorem wos_new {M : List Addr} {p : Addr} {H H' : Hp} {o : HO} (n : H p = none) (hM : ∀ a ∈ M, H a ≠ none) (h : H' p = some o) : Z.wos M H' p = some o := wos_mk (fun q => hM _ q n) h

theorem cut63 {xs : List V} (h : xs.length ≤ 63) : cutV xs none (some 63) = xs := by
  unfold cutV
  have e : HT.sIx xs.length xs.length (some 63) = xs.length := by
    rw [show (63 : Int) = ((63 : Nat) : Int) from rfl, HT.sIx_nat]
    omega
  rw [HT.sIx_none, e]
  simp
theorem map_int_get {ns : List Int} {i : Nat} {x : V} (h : (ns.map V.int)[i]? = some x) : ∃ y, x = V.int y := by
  rw [List.getElem?_map] at h
  cases e : ns[i]? with
  | none => rw [e] at h; cases h
  | some y => rw [e] at h; exact ⟨y, (Option.some.inj h).symm⟩
/-! ### comprehensions -/
def LcW (J : It) (g : TG) (tt : TT) (te : TE) (vs : List Nat) (σ : L2.St) (H1 : Hp) (Q : VK) : Prop := ∀ D, H1 D = none → ∃ W : Nat → Nat → Hp → Prop, (∃ m, W 0 m (upd H1 D (.lst []))) ∧ ∀ i m H, W i m H →
  (J.stop i H ∧ Q (.ref D) H) ∨ (J.go i H ∧ ∃ Nx : Hp → Prop, (∀ H', Nx H' → ∃ m', m' < m ∧ W (i + 1) m' H') ∧ ∀ x H', J.yld i H x H' → g x (wipe σ vs) H' fun σ2 H2 => wipe σ2 vs = wipe σ vs ∧ tt σ2 H2 fun b H3 =>
    if b = true then te σ2 H3 fun y H4 => ∃ acc, H4 D = some (.lst acc) ∧ acc.length < sizeLine ∧ Nx (upd H4 D (.lst (acc ++ [y]))) else Nx H3)
theorem s_lc {wi : TI} {g : TG} {tt : TT} {te : TE} {vs : List Nat} {σ : L2.St} {H : Hp} {Q : VK} (k : wi σ H fun J H1 => LcW J g tt te vs σ H1 Q) : tLc wi g tt te vs σ H Q := k
theorem s_yes {σ : L2.St} {H : Hp} {R : Bool → Hp → Prop} (k : R true H) : tYes σ H R := k
/-- between two turns: D holds what has been made -/
def Cv (Iv : Addr → Hp → Prop) (R : Addr → Nat → List V → Hp → Prop) (D : Addr) (i : Nat) (H : Hp) : Prop := ∃ l, Iv D H ∧ H D = some (.lst l) ∧ l.length ≤ i ∧ R D i l H
theorem c_put {Iv : Addr → Hp → Prop} {R : Addr → Nat → List V → Hp → Prop} {D : Addr} {i : Nat} {H4 : Hp} {l : List V} {y : V} (h : H4 D = some (.lst l)) (hz : l.length ≤ i ∧ i < 50000) (k : ∀ H5, Fr D H4 H5 → H5 D = some (.lst (l ++ [y])) → Iv D H5 ∧ R D (i + 1) (l ++ [y]) H5) :
    ∃ acc, H4 D = some (.lst acc) ∧ acc.length < sizeLine ∧ Cv Iv R D (i + 1) (upd H4 D (.lst (acc ++ [y]))) := by
  obtain ⟨a, r⟩ := k _ Fr.upd upd_same
  exact ⟨l, h, szl (by omega), l ++ [y], a, upd_same, by rw [List.length_append, List.length_singleton]; omega, r⟩
theorem c_skip {Iv : Addr → Hp → Prop} {R : Addr → Nat → List V → Hp → Prop} {D : Addr} {i : Nat} {H4 : Hp} {l : List V} (h : H4 D = some (.lst l)) (hz : l.length ≤ i) (a : Iv D H4) (r : R D (i + 1) l H4) : Cv Iv R D (i + 1) H4 := ⟨l, a, h, by omega, r⟩
/-- over any walk: the new list D is held apart; R speaks of what has been made -/
theorem c_it {J : It} {n : Nat} {G : Hp → Prop} {Y : Nat → Hp → V → Hp → Prop} {g : TG} {tt : TT} {te : TE} {vs : List Nat} {σ : L2.St} {H : Hp} {Q : VK} (w : Walk J n G Y) (Iv : Addr → Hp → Prop) (R : Addr → Nat → List V → Hp → Prop)
    (h0 : ∀ D H', H D = none → Ex H H' → H' D = some (.lst []) → Iv D H' ∧ R D 0 [] H') (hG : ∀ D H', Iv D H' → G H')
    (hs : ∀ D i l H1 x H1', i < n → Iv D H1 → H1 D = some (.lst l) → l.length ≤ i → R D i l H1 → Y i H1 x H1' → g x (wipe σ vs) H1' fun σ2 H2 => wipe σ2 vs = wipe σ vs ∧ tt σ2 H2 fun b H3 =>
      if b = true then te σ2 H3 fun y H4 => ∃ acc, H4 D = some (.lst acc) ∧ acc.length < sizeLine ∧ Cv Iv R D (i + 1) (upd H4 D (.lst (acc ++ [y]))) else Cv Iv R D (i + 1) H3)
    (hd : ∀ D l H', Iv D H' → H' D = some (.lst l) → l.length ≤ n → R D n l H' → Q (.ref D) H') : LcW J g tt te vs σ H Q := by
  intro D hD
  refine lc_it w (Cv Iv R D) ?_ (fun i H' _ p => ?_) (fun i x H1 H1' hi p y => ?_) (fun H' p => ?_)
  · obtain ⟨a, b⟩ := h0 D _ hD (Ex.new hD) upd_same
    exact ⟨[], a, upd_same, Nat.le_refl _, b⟩
  · obtain ⟨l, a, _⟩ := p
    exact hG _ _ a
  · obtain ⟨l, a, hl, hz, r⟩ := p
    exact hs D i l H1 x H1' hi a hl hz r y
  · obtain ⟨l, a, hl, hz, r⟩ := p
    exact hd D l H' a hl hz r
theorem c_range {n : Int} {g : TG} {tt : TT} {te : TE} {vs : List Nat} {σ : L2.St} {H : Hp} {Q : VK} (b : -(2 ^ 62) ≤ n ∧ n < 2 ^ 62) (Iv : Addr → Hp → Prop) (R : Addr → Nat → List V → Hp → Prop)
    (h0 : ∀ D H', H D = none → Ex H H' → H' D = some (.lst []) → Iv D H' ∧ R D 0 [] H')
    (hs : ∀ D (i : Nat) l H1, (i : Int) < n → Iv D H1 → H1 D = some (.lst l) → l.length ≤ i → R D i l H1 → g (.int (i : Int)) (wipe σ vs) H1 fun σ2 H2 => wipe σ2 vs = wipe σ vs ∧ tt σ2 H2 fun b H3 =>
      if b = true then te σ2 H3 fun y H4 => ∃ acc, H4 D = some (.lst acc) ∧ acc.length < sizeLine ∧ Cv Iv R D (i + 1) (upd H4 D (.lst (acc ++ [y]))) else Cv Iv R D (i + 1) H3)
    (hd : ∀ D l H', Iv D H' → H' D = some (.lst l) → l.length ≤ n.toNat → R D n.toNat l H' → Q (.ref D) H') :
    ∃ j : Int, [V.int n] = [.int j] ∧ -(2 ^ 62) ≤ j ∧ j < 2 ^ 62 ∧ LcW (Itr 0 j.toNat) g tt te vs σ H Q :=
  ⟨n, rfl, b.1, b.2, c_it walk_range Iv R h0 (fun _ _ _ => trivial) (fun D i l H1 x H1' hi a hl hz r y => by
    obtain ⟨e, y⟩ := y
    subst e y
    have e0 : (0 : Int) + (i : Int) = (i : Int) := Int.zero_add _
    dsimp only
    rw [e0]
    exact hs D i l _ (by omega) a hl hz r) hd⟩
theorem c_list {K : PySem.W.Frag} {a : Addr} {g : TG} {tt : TT} {te : TE} {vs : List Nat} {σ : L2.St} {H : Hp} {Q : VK} (xs : List V) (h : SqL K H a xs) (Iv : Addr → Hp → Prop) (R : Addr → Nat → List V → Hp → Prop)
    (h0 : ∀ D H', H D = none → Ex H H' → H' D = some (.lst []) → Iv D H' ∧ R D 0 [] H') (hG : ∀ D H', Iv D H' → SqL K H' a xs)
    (hs : ∀ D i l H1 x, xs[i]? = some x → Iv D H1 → H1 D = some (.lst l) → l.length ≤ i → R D i l H1 → g x (wipe σ vs) H1 fun σ2 H2 => wipe σ2 vs = wipe σ vs ∧ tt σ2 H2 fun b H3 =>
      if b = true then te σ2 H3 fun y H4 => ∃ acc, H4 D = some (.lst acc) ∧ acc.length < sizeLine ∧ Cv Iv R D (i + 1) (upd H4 D (.lst (acc ++ [y]))) else Cv Iv R D (i + 1) H3)
    (hd : ∀ D l H', Iv D H' → H' D = some (.lst l) → l.length ≤ xs.length → R D xs.length l H' → Q (.ref D) H') :
    ∃ a', V.ref a = .ref a' ∧ (∃ xs, SqL K H a' xs) ∧ LcW (Itl K a') g tt te vs σ H Q :=
  ⟨a, rfl, ⟨xs, h⟩, c_it walk_list Iv R h0 hG (fun D i l H1 x H1' hi a hl hz r y => by
    obtain ⟨e, y⟩ := y
    subst e
    exact hs D i l _ x y a hl hz r) hd⟩
theorem c_tup {K : PySem.W.Frag} {a : Addr} {g : TG} {tt : TT} {te : TE} {vs : List Nat} {σ : L2.St} {H : Hp} {Q : VK} (xs : List V) (h : SqT K H a xs) (Iv : Addr → Hp → Prop) (R : Addr → Nat → List V → Hp → Prop)
    (h0 : ∀ D H', H D = none → Ex H H' → H' D = some (.lst []) → Iv D H' ∧ R D 0 [] H') (hG : ∀ D H', Iv D H' → SqT K H' a xs)
    (hs : ∀ D i l H1 x, xs[i]? = some x → Iv D H1 → H1 D = some (.lst l) → l.length ≤ i → R D i l H1 → g x (wipe σ vs) H1 fun σ2 H2 => wipe σ2 vs = wipe σ vs ∧ tt σ2 H2 fun b H3 =>
      if b = true then te σ2 H3 fun y H4 => ∃ acc, H4 D = some (.lst acc) ∧ acc.length < sizeLine ∧ Cv Iv R D (i + 1) (upd H4 D (.lst (acc ++ [y]))) else Cv Iv R D (i + 1) H3)
    (hd : ∀ D l H', Iv D H' → H' D = some (.lst l) → l.length ≤ xs.length → R D xs.length l H' → Q (.ref D) H') :
    ∃ a', V.ref a = .ref a' ∧ (∃ xs, SqT K H a' xs) ∧ LcW (Itt K a') g tt te vs σ H Q :=
  ⟨a, rfl, ⟨xs, h⟩, c_it walk_tup Iv R h0 hG (fun D i l H1 x H1' hi a hl hz r y => by
    obtain ⟨e, y⟩ := y
    subst e
    exact hs D i l _ x y a hl hz r) hd⟩

/-- the law: a list of at most 63 ints is handed in, True comes out -/
def spLaw (K : PySem.W.Frag) : Sp := fun vs H Q _ => ∃ (a : Addr) (ns : List Int), vs = [.ref a] ∧ SqL K H a (ns.map V.int) ∧ ns.length ≤ 63 ∧ ∀ H', Q (.bl true) H'
theorem exm_self {K : PySem.W.Frag} {S : Addr} (h1 : PySem.W.subIn K (.ref S) (.type "BaseException") = some true) (h2 : PySem.W.isClsIn K S = true) (h3 : PySem.W.typeIn K (.ref S) = some (.type "type")) (h4 : PySem.W.subIn K (.ref S) (.ref S) = some true) :
    PySem.W.exmOne K (.ref S) (.ref S) = some true := by
  have e1 : (PySem.W.subIn K (.ref S) (.type "BaseException") == some true) = true := by rw [h1] <;> rfl
  have e2 : ((PySem.W.clsIn K S).isSome && PySem.W.typeIn K (.ref S) == some (.type "type")) = true := by
    rw [h3]
    have e3 : (PySem.W.clsIn K S).isSome = true := h2
    rw [e3] <;> rfl
  show (if (PySem.W.subIn K (.ref S) (.type "BaseException") == some true) = true then (if ((PySem.W.clsIn K S).isSome && PySem.W.typeIn K (.ref S) == some (.type "type")) = true then PySem.W.subIn K (.ref S) (.ref S) else none) else none) = some true
  rw [if_pos e1, if_pos e2, h4]
theorem Str_len_app (a b : Str) : (a ++ b).length = a.length + b.length := by
  show (a.cps ++ b.cps).size = _
  rw [Array.size_append]
  rfl
theorem s_callS {sp : Sp} {E : L2.St → XK} {tr : TA} {σ : L2.St} {H : Hp} {Q : VK} (k : tr σ H fun vs H1 => sp vs H1 Q (E σ)) : tCallS sp E tr σ H Q := k
/-- a whole number within bounds -/
def R (lo hi n : Int) : Prop := lo ≤ n ∧ n ≤ hi
def IntIn (lo hi : Int) (v : V) : Prop := ∃ n, v = .int n ∧ R lo hi n
theorem intIn_cons {lo hi n : Int} {xs : List V} (h : R lo hi n) (k : ∀ v ∈ xs, IntIn lo hi v) : ∀ v ∈ V.int n :: xs, IntIn lo hi v := fun v hv => by
  rcases List.mem_cons.mp hv with e | hv
  · exact ⟨n, e, h⟩
  · exact k v hv
theorem intIn_nil {lo hi : Int} : ∀ v ∈ ([] : List V), IntIn lo hi v := fun v hv => by cases hv
def spInt (lo hi : Int) : Sp := fun vs H Q _ => ∃ b c : Addr, vs = [.ref b] ∧ Bag H b c ∧ ∀ z H', lo ≤ z → z ≤ hi → Bag H' b c → Fr b H H' → Q (.int z) H'
theorem use_int {lo hi : Int} {H : Hp} {b c : Addr} {Q : VK} {E : XK} (B : Bag H b c) (k : ∀ z H', lo ≤ z → z ≤ hi → Bag H' b c → Fr b H H' → Q (.int z) H') : spInt lo hi ([.ref b] ++ []) H Q E := ⟨b, c, rfl, B, k⟩
/-! ### kinds -/
theorem kb_int_tuple : kitB "int" "tuple" = some false := by decide +kernel
theorem kb_int_list : kitB "int" "list" = some false := by decide +kernel
theorem kb_int_bool : kitB "int" "bool" = some false := by decide +kernel
theorem kb_int_int : kitB "int" "int" = some true := by decide +kernel
theorem kb_str_tuple : kitB "str" "tuple" = some false := by decide +kernel
theorem kb_str_list : kitB "str" "list" = some false := by decide +kernel
theorem kb_str_bool : kitB "str" "bool" = some false := by decide +kernel
theorem kb_str_int : kitB "str" "int" = some false := by decide +kernel
theorem kb_bool_tuple : kitB "bool" "tuple" = some false := by decide +kernel
theorem kb_bool_list : kitB "bool" "list" = some false := by decide +kernel
theorem kb_bool_bool : kitB "bool" "bool" = some true := by decide +kernel
theorem kb_bool_int : kitB "bool" "int" = some true := by decide +kernel
theorem kb_NoneType_tuple : kitB "NoneType" "tuple" = some false := by decide +kernel
theorem kb_NoneType_list : kitB "NoneType" "list" = some false := by decide +kernel
theorem kb_NoneType_bool : kitB "NoneType" "bool" = some false := by decide +kernel
theorem kb_NoneType_int : kitB "NoneType" "int" = some false := by decide +kernel
theorem kb_tuple_tuple : kitB "tuple" "tuple" = some true := by decide +kernel
theorem kb_tuple_list : kitB "tuple" "list" = some false := by decide +kernel
theorem kb_tuple_bool : kitB "tuple" "bool" = some false := by decide +kernel
theorem kb_tuple_int : kitB "tuple" "int" = some false := by decide +kernel
theorem kb_list_tuple : kitB "list" "tuple" = some false := by decide +kernel
theorem kb_list_list : kitB "list" "list" = some true := by decide +kernel
theorem kb_list_bool : kitB "list" "bool" = some false := by decide +kernel
theorem kb_list_int : kitB "list" "int" = some false := by decide +kernel

section
variable {K : PySem.W.Frag} {H H' : Hp} {Q : VK} {x v : V}
theorem ty_sqL {a : Addr} {xs : List V} (h : SqL K H a xs) : TyX K H (.ref a) (.type "list") := by
  rcases h with (h | ⟨o, h⟩) | ⟨o, its, n, h, c, _⟩
  · exact .base (.lst h)
  · exact .base (.frz h)
  · exact .kList h c
theorem ty_sqT {a : Addr} {xs : List V} (h : SqT K H a xs) : TyX K H (.ref a) (.type "tuple") := by
  rcases h with (h | ⟨o, h⟩) | ⟨o, its, n, h, c, _⟩
  · exact .base (.tup h)
  · exact .fTuple h
  · exact .kTuple h c
theorem s_isi {n m : String} {b : Bool} (ty : TyX K H x (.type n)) (e : kitB n m = some b) (k : Q (.bl b) H) : rIsi K [x, .ty m] H Q := ⟨x, .ty m, .type n, .type m, b, rfl, .ty m, ty, kit_ty e, k⟩
theorem s_isiTL {n : String} {b c : Bool} {tp : Addr} (h : H tp = some (.tup [.ty "tuple", .ty "list"])) (ty : TyX K H x (.type n)) (e : kitB n "tuple" = some b) (e' : kitB n "list" = some c) (k : Q (.bl (b || c)) H) : rIsiT K [x, .ref tp] H Q := by
  refine ⟨x, tp, _, .type n, [.type "tuple", .type "list"], _, rfl, h, .cons (.ty _) (.cons (.ty _) .nil), ty, ?_, k⟩
  cases b with
  | true => exact kitAny_cons (kit_ty e) (fun z => by cases z) (fun _ => rfl)
  | false =>
    refine kitAny_cons (kit_ty e) (fun _ => ?_) (fun z => by cases z)
    cases c with
    | true => exact kitAny_cons (kit_ty e') (fun z => by cases z) (fun _ => rfl)
    | false => exact kitAny_cons (kit_ty e') (fun _ => kitAny_nil) (fun z => by cases z)
end

/-! ### data -/
mutual
theorem dp_ex {K : PySem.W.Frag} {H H' : Hp} (e : Ex H H') : ∀ {v : V} {d : PyData}, Dp K H v d → Dp K H' v d
  | _, _, .non => .non
  | _, _, .bl b => .bl b
  | _, _, .int i => .int i
  | _, _, .str x => .str x
  | _, _, .lst h r => .lst (Ex.sqL e h) (dpAll_ex e r)
  | _, _, .tup h r => .tup (Ex.sqT e h) (dpAll_ex e r)
theorem dpAll_ex {K : PySem.W.Frag} {H H' : Hp} (e : Ex H H') : ∀ {vs : List V} {ds : List PyData}, DpAll K H vs ds → DpAll K H' vs ds
  | _, _, .nil => .nil
  | _, _, .cons h r => .cons (dp_ex e h) (dpAll_ex e r)
end
theorem dpAll_len {K : PySem.W.Frag} {H : Hp} : ∀ {vs : List V} {ds : List PyData}, DpAll K H vs ds → vs.length = ds.length
  | _, _, .nil => rfl
  | _, _, .cons _ r => congrArg Nat.succ (dpAll_len r)
theorem dpAll_get {K : PySem.W.Frag} {H : Hp} : ∀ {vs : List V} {ds : List PyData} {i : Nat} {v : V} {d : PyData}, DpAll K H vs ds → vs[i]? = some v → ds[i]? = some d → Dp K H v d
  | _, _, _, _, _, .nil, h, _ => by cases h
  | _, _, 0, _, _, .cons h _, e1, e2 => by
    cases e1
    cases e2
    exact h
  | _, _, i + 1, _, _, .cons _ r, e1, e2 => dpAll_get (i := i) r (by simpa using e1) (by simpa using e2)
/-- data of a bounded depth, its sequences bounded -/
def DOk : Nat → PyData → Prop
  | 0, _ => False
  | n + 1, .list ds => ds.length ≤ 1000 ∧ ∀ d ∈ ds, DOk n d
  | n + 1, .tuple ds => ds.length ≤ 1000 ∧ ∀ d ∈ ds, DOk n d
  | _ + 1, .dict _ => False
  | _ + 1, _ => True
def spLike (K : PySem.W.Frag) (n : Nat) : Sp := fun vs H Q _ => ∃ x y d, vs = [x, y] ∧ Dp K H x d ∧ Dp K H y d ∧ DOk n d ∧ ∀ H', Ex H H' → Q (.bl true) H'
theorem fnOk_no {P : Program} {w : World} {K : PySem.W.Frag} {mg : Str → Option Value} {base : Heap} {CX : CXT} {k : Nat} {f : Addr} {fd : FuncData} {ps : List Str} {sp : Sp} (h : ∀ vs H Q E, sp vs H Q E → False) : FnOk P w K mg base CX k f fd ps sp :=
  ⟨fun vs H Q E q => (h _ _ _ _ q).elim, fun _ _ _ _ _ _ _ _ _ _ _ _ _ q => (h _ _ _ _ q).elim⟩
theorem like_no {K : PySem.W.Frag} : ∀ vs H Q E, spLike K 0 vs H Q E → False := fun vs H Q E h => by
  obtain ⟨x, y, d, _, _, _, ok, _⟩ := h
  exact ok
theorem ite_tE {c : Bool} {A B : Prop} (h : c = true) (k : A) : if c = true then A else B := by rw [if_pos h]; exact k
theorem ite_fE {c : Bool} {A B : Prop} (h : c = false) (k : B) : if c = true then A else B := by rw [h]; exact ite_f k
theorem ev_blT {c : Bool} {Q : VK} {H : Hp} (h : c = true) (k : Q (.bl true) H) : Q (.bl c) H := by rw [h]; exact k
end Z

set_option Elab.async false
set_option linter.all false
set_option maxRecDepth 100000
namespace Z
open PySem L2
/-! a display with a star -/
def tStarT (K : PySem.W.Frag) (te : TE) (tr : TA) : TA := fun σ H Q => te σ H fun x H1 => ∃ a us, x = .ref a ∧ SqT K H1 a us ∧ tr σ H1 fun vs H2 => Q (us ++ vs) H2
theorem pa_starT {X : Cx} {e : Expr} {es : List Expr} {te : TE} {t : TA} {p : Pos} (he : PE X e te) (hr : PA X es t) (hs : starEach (.Starred e p :: es) X.env = (true, eval e X.env) :: starEach es X.env := by rfl) : PA X (.Starred e p :: es) (tStarT X.K te t) := by
  refine ⟨fun pos pins s σ H Q I h => ?_⟩
  refine PySem.W.items_star (thn (he.run pins s σ H _ I h) fun u s1 ⟨x, H1, I1, r1, a, us, ex, ha, q⟩ => ?_) hs
  subst ex
  obtain rfl : u = Value.ref a := r1
  exact star_tup I1 ha fun ws s2 I2 rw' => thn (hr.run pos pins s2 σ H1 _ I2 q) fun zs s3 ⟨vs, H2, I3, r2, q2⟩ => ⟨us ++ vs, H2, I3, rw'.append r2, q2⟩
theorem s_star {K : PySem.W.Frag} {te : TE} {tr : TA} {σ : L2.St} {H : Hp} {Q : List V → Hp → Prop} (h : te σ H fun x H1 => ∃ a us, x = .ref a ∧ SqT K H1 a us ∧ tr σ H1 fun vs H2 => Q (us ++ vs) H2) : tStarT K te tr σ H Q := h
/-! a target of several names, its library part named -/
theorem pg_tupK {X : Cx} {K : PySem.W.Frag} {es : List Expr} {k : Nat} {t : TGs} (n : Nat) {pos : Pos} (hK : X.K = K) (hc : X.calm = true) (h : PGs X es t)
    (hn : (assignEach es X.env).length = n := by rfl) (hst : (assignEach es X.env).findIdx? (·.1) = none := by rfl) : PG X (.Tuple es k pos) (gTup K n t) := by
  subst hK
  exact pg_tup hc h hn hst
/-! t > u, tuples of ints -/
def rGtT2 (K : PySem.W.Frag) : R2 := fun x y H Q => ∃ (a b : Addr) (p q r s : Int), x = .ref a ∧ y = .ref b ∧ SqT K H a [.int p, .int q] ∧ SqT K H b [.int r, .int s] ∧ Q (.bl (decide (r < p ∨ (r = p ∧ s < q)))) H
theorem op_gtT2 {X : Cx} (hu : X.A.units < cLine) : OpR X (compareOp .Gt) (rGtT2 X.K) := by
  intro pins st σ H x y v u Q I rx ry h
  obtain ⟨a, b, p, q, r, s, rfl, rfl, ha, hb, k⟩ := h
  obtain rfl : v = Value.ref a := rx
  obtain rfl : u = Value.ref b := ry
  obtain ⟨its, r1, p1, _⟩ := I.tuple ha
  obtain ⟨jts, r2, p2, _⟩ := I.tuple hb
  cases r1 with
  | cons h1 r1 =>
    cases r1 with
    | cons h2 r1 =>
      cases r1
      cases r2 with
      | cons h3 r2 =>
        cases r2 with
        | cons h4 r2 =>
          cases r2
          obtain ⟨t1, rfl⟩ := h1
          obtain ⟨t2, rfl⟩ := h2
          obtain ⟨t3, rfl⟩ := h3
          obtain ⟨t4, rfl⟩ := h4
          have zz : ∀ m n : Int, (m == n) = decide (m = n) := fun m n => by
            by_cases w : m = n
            · rw [decide_eq_true w]
              exact beq_iff_eq.mpr w
            · rw [decide_eq_false w]
              exact beq_eq_false_iff_ne.mpr w
          have G := Ob.RcOp.tuples_gt (A := X.A) (s := st) (e := fun j => if j = 0 then decide (p = r) else decide (q = s)) (r := fun j => if j = 0 then decide (r < p) else decide (s < q)) p1 p2 hu
            (fun j h1 h2 => by
              have : j = 0 ∨ j = 1 := by
                simp at h1
                omega
              rcases this with rfl | rfl
              · rw [if_pos rfl, ← zz]
                exact SeqAt.EqAt.int_int _ _ _ _
              · rw [if_neg (by decide), ← zz]
                exact SeqAt.EqAt.int_int _ _ _ _)
            (fun j h1 h2 _ => by
              have : j = 0 ∨ j = 1 := by
                simp at h1
                omega
              rcases this with rfl | rfl
              · rw [if_pos rfl]
                exact Ob.RcOp.gt_int _ _ _ _
              · rw [if_neg (by decide)]
                exact Ob.RcOp.gt_int _ _ _ _)
          have en : Ob.lexAt (fun j => if j = 0 then decide (p = r) else decide (q = s)) (fun j => if j = 0 then decide (r < p) else decide (s < q)) (decide ((2 : Nat) > 2)) 0 2 = decide (r < p ∨ (r = p ∧ s < q)) := by
            rw [Ob.lexAt_succ, Ob.lexAt_succ, Ob.lexAt_zero]
            by_cases e1 : p = r
            · subst e1
              by_cases e2 : q = s
              · subst e2
                simp
              · simp [e2]
            · have : (r < p ∨ (r = p ∧ s < q)) ↔ r < p := ⟨fun h => h.elim id fun h => absurd h.1.symm e1, .inl⟩
              simp [e1, this]
          have G' : wpAny (model X.prog X.w) X.A (compareOp .Gt (.ref a) (.ref b)) (EP X pins σ Q) X.xe st := G X.prog X.w X.xe (EP X pins σ Q) ⟨.bl _, H, I, rfl, by
            have k' := k
            rw [← en] at k'
            exact k'⟩
          exact G'
theorem s_gtT2 {K : PySem.W.Frag} {H : Hp} {Q : VK} {a b : Addr} {p q r s : Int} (ha : SqT K H a [.int p, .int q]) (hb : SqT K H b [.int r, .int s]) (k : Q (.bl (decide (r < p ∨ (r = p ∧ s < q)))) H) : rGtT2 K (.ref a) (.ref b) H Q := ⟨a, b, p, q, r, s, rfl, rfl, ha, hb, k⟩
/-! set of a list of ints -/
section
open PySem.Spec PyProof.Rows
variable {P : Program} {w : World} {A : Around}
theorem set_upd {R : Result → Shared → Prop} {J : Addr} {fp wr : List Addr} {G : Array GenState → Array GenState → Prop} {n : Nat} {T : Nat → Value → Prop} {Z : Nat → Shared → Prop}
    (W : WalksS P w A.in1 J fp wr G n T Z) (a : Addr) (ha : a ∉ fp) (ns : List Int) (en : ns.length = n) (ht : ∀ i v, T i v → ∃ t, v = .int (ns.getD i 0) t) (room : n + 1 < scanBound) :
    ∀ (k i m : Nat) (s : Shared) (S : Int → Bool), n - i = k → i ≤ n → Z i s → SetR w s.heap a S m → m ≤ i → (∀ x, S x = true ↔ x ∈ ns.take i) →
      (∀ s' S' m', Moved (a :: wr) G s s' → SetR w s'.heap a S' m' → m' ≤ n → (∀ x, S' x = true ↔ x ∈ ns) → R (.ok (.ret .none)) s') →
      codeAny (model P w) A (.builtin "set.update.loop" ⟨[.ref a, .ref J], []⟩) R s
  | 0, i, m, s, S, hk, hi, hz, hS, hm, hx, hR => by
    obtain rfl : i = n := by omega
    refine codeAny_builtin PyProof.Rows.F.entry_set_update_loop ?_
    rw [PySem.Around.under_plainId PyProof.Rows.F.plain_set_update_loop _]
    refine wpAny_bind (m := pyNext (.ref J)) (W.done s _ _ hz fun s' mv => ?_)
    refine wpAny_pure (hR s' S m (mv.mono fun b hb => List.mem_cons_of_mem _ hb) (hS.at fun o e => mv.heap a _ (fun z => ha (W.sub _ z)) e) hm fun x => ?_)
    rw [hx, ← en, List.take_length]
  | k + 1, i, m, s, S, hk, hi, hz, hS, hm, hx, hR => by
    have lt : i < n := by omega
    have sb : ∀ b ∈ wr, b ∈ a :: wr := fun b hb => List.mem_cons_of_mem _ hb
    refine codeAny_builtin PyProof.Rows.F.entry_set_update_loop ?_
    rw [PySem.Around.under_plainId PyProof.Rows.F.plain_set_update_loop _]
    refine wpAny_bind (m := pyNext (.ref J)) (W.item i s _ _ lt hz fun v s' hv hz' mv => ?_)
    obtain ⟨t, rfl⟩ := ht i v hv
    have hS' : SetR w s'.heap a S m := hS.at fun o e => mv.heap a _ (fun z => ha (W.sub _ z)) e
    show wpAny _ A.in1 (holding [Value.int (ns.getD i 0) t] (setAdd a (.int (ns.getD i 0) t)) >>= _) _ _ s'
    refine wpAny_bind (wpAny_holding ?_)
    unfold setAdd
    refine wpAny_holding (wpAny_bind ((intKind P w).pyHash (intKind_is P w (ns.getD i 0) t) ?_))
    refine setR_add_hashed (s := { s' with toks := s'.toks + 1 }) hS' (by omega) fun h' hb hS2 => ?_
    refine wpAny_pure ⟨plainId_quiet PyProof.Rows.F.plain_set_update_loop _, set_upd W a ha ns en ht room k (i + 1) _ _ _ (by omega) lt (W.frame _ s' _ _ hz' (Nat.le_succ _) fun b hb' o e => ?_) hS2 (by split <;> omega) (fun x => ?_) fun s2 S2 m2 mv2 hS3 hm3 hx3 => ?_⟩
    · rw [hb.2 b (fun h : b = a => ha (by rw [← h]; exact hb'))]
      exact e
    · rw [Bool.or_eq_true, decide_eq_true_eq, hx x, List.take_succ, List.mem_append, List.getElem?_eq_getElem (by omega), Option.toList_some, List.mem_singleton, List.getD_eq_getElem?_getD, List.getElem?_eq_getElem (by omega), Option.getD_some]
    · refine hR s2 S2 m2 (Moved.trans W.gtrans ((mv.mono sb).then_heap (Nat.le_succ _) fun b o hb' e => ?_) mv2) hS3 hm3 hx3
      rw [hb.2 b (fun h : b = a => hb' (by rw [h]; exact List.mem_cons_self))]
      exact e
theorem set_new1 {E : Value → Shared → Prop} {s : Shared} (a : Value) {Q : Value → Shared → Prop}
    (h : Q (.ref s.heap.objs.size) { s with heap := s.heap.push { cls := .type "set", dict := none, data := .set #[] 0 (.fresh 0 0 (!w.params.followText "set-order")) } }) :
    codeAny (model P w) A (.call (.builtin "set.__new__") ⟨[.type "set", a], []⟩) (wants Q E) s := by
  refine codeAny_of_tree ?_
  refine wpAny_bind (m := checkBuiltinCall "set.__new__" _) (wpAny_of_eq (PySem.F.newCall_set_1 a) (wpAny_pure ⟨plainId_quiet F.plain_set_new _, codeAny_builtin F.entry_set_new ?_⟩))
  rw [PySem.Around.under_plainId F.plain_set_new _]
  unfold Builtin.«set.__new__» Builtin.Frozenset.newClass
  have sub := sub_set_self
  obtain ⟨hp, g, d, tk, os⟩ := s
  dsimp only
  wp_walk
  refine wpAny_askSetting (wpAny_pure ?_)
  simp only [newObj]
  exact wpAny_bind (wpAny_alloc (wpAny_pure (wpAny_pure h)))
set_option maxHeartbeats 4000000 in
theorem set_call1 {E : Value → Shared → Prop} {s : Shared} {l : Addr} {its : Array Value} {ns : List Int} {Q : Value → Shared → Prop}
    (calm : A.handled = none) (hl : s.heap.IsList l its) (hi : IntsAre its.toList ns) (room : its.size + 1 < scanBound)
    (h : ∀ (h' : Heap) (tk : Nat) (S : Int → Bool) (m : Nat), SetR w h' s.heap.objs.size S m → m ≤ ns.length → (∀ x, S x = true ↔ x ∈ ns) → (∀ b o, s.heap.get? b = some o → h'.get? b = some o) → Q (.ref s.heap.objs.size) { s with heap := h', toks := tk }) :
    wpAny (model P w) A (call (.type "set") [.ref l]) Q E s := by
  obtain ⟨c, tl, cm⟩ := F.called_set.mro
  have c1 := F.called_set.made
  have c2 := F.called_set.sub
  refine wpAny_call (codeAny_of_tree ?_)
  show wpAny _ _ (callAny (.type "set") _) _ _ _
  refine wpAny_pure ⟨Code.quiet_builtin _ (by decide +kernel), codeAny_builtin F.entry_type_call ?_⟩
  rw [PySem.Around.under_plain (weight_type_call_type "set" [.ref l] []) rfl]
  have c3 := F.called_set.notType
  have c4 := F.called_set.canCreate
  have c5 := PySem.F.typeCall_set_1 (.ref l)
  repeat (any_goals (first | assumption | wp_step))
  generalize eO : (!w.params.followText "set-order") = led
  refine codeAny_mono (set_new1 (.ref l) (E := E) (Q := fun v s1 => v = .ref s.heap.objs.size ∧ s1 = { s with heap := s.heap.push { cls := .type "set", dict := none, data := .set #[] 0 (.fresh 0 0 led) } }) (by rw [eO]; exact ⟨rfl, rfl⟩)) fun r s1 hr => ?_
  cases r with
  | error e => exact hr
  | ok fl =>
    cases fl with
    | ret v =>
      obtain ⟨rfl, rfl⟩ := hr
      have hO : (s.heap.push { cls := .type "set", dict := none, data := .set #[] 0 (.fresh 0 0 led) }).get? s.heap.objs.size = some { cls := .type "set", dict := none, data := .set #[] 0 (.fresh 0 0 led) } := Heap.get?_push_size _ rfl
      have hT : Shared.TypeIs { s with heap := s.heap.push { cls := .type "set", dict := none, data := .set #[] 0 (.fresh 0 0 led) } } (.ref s.heap.objs.size) "set" := ⟨_, hO, rfl⟩
      have c6 := F.called_set.init.lookup
      have c7 := F.called_set.init.bind (.ref s.heap.objs.size)
      have hR0 : SetR w (s.heap.push { cls := .type "set", dict := none, data := .set #[] 0 (.fresh 0 0 led) }) s.heap.objs.size (fun _ => false) 0 := by
        rw [← eO]
        exact setR_fresh w
      repeat (any_goals (first | assumption | wp_step))
      refine codeAny_mono (codeAny_call_builtin (R := wants (fun r s2 => r = .none ∧ ∃ h' tk S m, s2 = { s with heap := h', toks := tk } ∧ SetR w h' s.heap.objs.size S m ∧ m ≤ ns.length ∧ (∀ x, S x = true ↔ x ∈ ns) ∧ (∀ b o, s.heap.get? b = some o → h'.get? b = some o)) E)
        F.called_set.init.plain F.entry_set_init (PySem.check_set_init_1 hT ?_)) fun r2 s2 hr2 => ?_
      · obtain ⟨⟨oc, od, oo, os⟩, g1, g2, nl, g3⟩ := hl
        simp only at g2 g3
        subst g2
        subst g3
        have g4 : (s.heap.push { cls := .type "set", dict := none, data := .set #[] 0 (.fresh 0 0 led) }).get? l = some { cls := .type "list", dict := od, data := .seq its nl, slots := os } := Heap.get?_push_of_some _ g1
        have n1 := PySem.F.sub_list_set
        have n2 := PySem.F.sub_list_frozenset
        have n3 : (Value.type "list" == Value.type "dict") = false := by decide
        have g5 : (s.heap.push { cls := .type "set", dict := none, data := .set #[] 0 (.fresh 0 0 led) }).IsList l its := ⟨_, g4, rfl, nl, rfl⟩
        unfold Builtin.«set.__init__» noKeywords Builtin.Frozenset.updateFrom
        generalize hPI : pyIter = PI
        wp_walk
        subst hPI
        refine wpAny_pyIter_list g5 ?_
        refine wpAny_bind (wpAny_runValue ?_)
        have lt : l < s.heap.objs.size := Heap.lt_size g1
        have calm3 : A.in1.in1.in1.handled = none := by simp [calm]
        have ne1 : l ≠ (s.heap.push { cls := .type "set", dict := none, data := .set #[] 0 (.fresh 0 0 led) }).objs.size := by
          rw [Heap.size_push]
          exact Nat.ne_of_lt (Nat.lt_succ_of_lt lt)
        have ne2 : s.heap.objs.size ∉ [(s.heap.push { cls := .type "set", dict := none, data := .set #[] 0 (.fresh 0 0 led) }).objs.size, l] := by
          rw [Heap.size_push]
          simp only [List.mem_cons, List.mem_singleton, List.not_mem_nil, or_false, not_or]
          exact ⟨Nat.ne_of_lt (Nat.lt_succ_self _), Nat.ne_of_gt lt⟩
        refine set_upd ((Walks.list calm3 _ l ne1 its).toS) s.heap.objs.size ne2 ns (by rw [← hi.length, Array.length_toList]) (fun i v hv => PyProof.Rows.IntsAre.int_at hi i v (by rw [Array.getElem?_toList]; exact hv)) room (its.size - 0) 0 0 _ _ (by omega) (Nat.zero_le _)
          ⟨⟨_, Heap.get?_push_size _ rfl, rfl, rfl⟩, g5.push _⟩ (hR0.at fun o e => Heap.get?_push_of_some _ e) (Nat.le_refl _) (fun x => by simp) fun s' S' m' mv hS hm hx => ?_
        obtain ⟨h', g', d', tk', os'⟩ := s'
        obtain rfl : g' = s.gens := mv.gens
        obtain rfl : d' = s.drawn := mv.drawn
        obtain rfl : os' = s.os := mv.os
        refine wpAny_pure (wpAny_pure ⟨rfl, h', tk', S', m', rfl, hS, by rw [← hi.length, Array.length_toList]; exact hm, hx, fun b o e => ?_⟩)
        have b1 := Heap.lt_size e
        refine mv.heap b o ?_ (Heap.get?_push_of_some _ (Heap.get?_push_of_some _ e))
        rw [Heap.size_push]
        simp only [List.mem_cons, List.mem_singleton, List.not_mem_nil, or_false, not_or]
        exact ⟨Nat.ne_of_lt b1, Nat.ne_of_lt (Nat.lt_succ_of_lt b1)⟩
      · cases r2 with
        | error e => exact hr2
        | ok fl2 =>
          cases fl2 with
          | ret r =>
            obtain ⟨rfl, h', tk, S, m, rfl, q1, q2, q3, q4⟩ := hr2
            repeat (any_goals (first | assumption | wp_step))
            exact h _ _ _ _ q1 q2 q3 q4
          | _ => exact hr2.elim
    | _ => exact hr.elim
end
def rSetL (w : World) (K : PySem.W.Frag) : List V → Hp → VK → Prop := fun xs H Q => ∃ (a : Addr) (ns : List Int), xs = [V.ref a] ∧ SqL K H a (ns.map V.int) ∧ ns.length + 1 < scanBound ∧ ∀ p S m, H p = none → m ≤ ns.length → (∀ x, S x = true ↔ x ∈ ns) → Q (.ref p) (upd H p (SetO w p S m))
theorem cr_setL {X : Cx} (hc : X.calm = true) : CallR X (.type "set") (rSetL X.w X.K) := by
  intro pins s σ H xs us Q I r h
  obtain ⟨a, ns, rfl, ha, room, q⟩ := h
  obtain ⟨its, rv, hl, _⟩ := I.list ha
  rw [Vals.ref1 r]
  have hi := rv.ints
  exact set_call1 (I.ok.hd hc) hl.isList hi (by rw [List.size_toArray, hi.length]; exact room) fun h' tk S m hS hm hx keep => ⟨.ref _, _, I.laid (t' := tk) keep (Nat.le_refl _) (setO_new hS), rfl, q _ S m (I.hok.fresh (Nat.le_refl _)) hm hx⟩
theorem s_setOf {w : World} {K : PySem.W.Frag} {H : Hp} {Q : VK} {a : Addr} {ns : List Int} (ha : SqL K H a (ns.map V.int)) (room : ns.length + 1 < scanBound) (k : ∀ p S m H', H p = none → Ex H H' → H' p = some (SetO w p S m) → m ≤ ns.length → (∀ x, S x = true ↔ x ∈ ns) → Q (.ref p) H') : rSetL w K [.ref a] H Q :=
  ⟨a, ns, rfl, ha, room, fun p S m hp h1 h2 => k p S m _ hp (Ex.new hp) upd_same h1 h2⟩
theorem s_sortedSet {w : World} {H : Hp} {Q : VK} {a : Addr} {S : Int → Bool} {m : Nat} (ha : H a = some (SetO w a S m)) (room : m < 64) (k : ∀ (ns : List Int) p H', ns.Pairwise (· < ·) → (∀ x : Int, x ∈ ns ↔ S x = true) → ns.length = m → H p = none → Ex H H' → H' p = some (.lst (ns.map V.int)) → Q (.ref p) H') : rSortedSet w [.ref a] H Q :=
  ⟨a, S, m, rfl, ha, room, fun ns p h1 h2 h3 hp => k ns p _ h1 h2 h3 hp (Ex.new hp) upd_same⟩
end Z

set_option Elab.async false
set_option linter.all false
set_option maxRecDepth 100000
namespace Z
open PySem L2
/-! instances of an own class: ==, !=, str, repr by their own methods -/
section
open PySem.W PyProof.Rows
variable {P : Program} {w : World} {A : Around} {E : Value → Shared → Prop} {s : Shared} {K : Frag} {x C L f : Addr} {h0 : Heap} {m : Str → Option Value} {ox : Obj} {od : Option Obj} {b tb : Value}
theorem ifBoundB {M : Model} {name : Str} {id : String} {args : List Value} {Q : Option Value → Shared → Prop} (X : K.In s.heap) (I : InstAt s.heap x ox C od) (hs : findIn K (.ref C) name = some (some (.builtin id)))
    (hb : ∀ v, bindSpecial (.builtin id) v = pure (.builtin id, [v])) (h : wpAny M A (call (.builtin id) (.ref x :: args)) (fun v => Q (some v)) E s) : wpAny M A (callSpecialIfBound? (.ref x) name args) Q E s := by
  simp only [callSpecialIfBound?, bindSpecialIfBound?]
  refine wpAny_holding (wpAny_bind (wpAny_bind (wpAny_bind (I.type.here ((looks_findIn X hs).here ?_)))))
  refine wpAny_bind (wpAny_askSetting (wpAny_ite ?_))
  have last : wpAny M A (call (.builtin id) ([.ref x] ++ args) >>= fun v => pure (some v)) Q E s := wpAny_bind (wpAny_mono h (fun v s' z => wpAny_pure z) fun _ _ z => z)
  split
  · exact wpAny_bind ((Looks.of_pure (hb _)).here (wpAny_pure (by exact last)))
  · exact wpAny_tryCatch (wpAny_bind ((Looks.of_pure (hb _)).here (wpAny_pure (by exact last))))
open Builtin in
theorem ne_slot {Q : Value → Shared → Prop} (hu : A.in1.units < cLine) (X : K.In s.heap) (I : InstAt s.heap x ox C od) (ho : mroIn K C (.type "object") = some true) (he : findIn K (.ref C) "__eq__" = some (some (.ref f))) (hf : isFn K (.ref f) = true)
    (h : wpAny (model P w) A.in1 (call (.ref f) [.ref x, b]) (fun v s' => ∃ r, v = .bool r ∧ Q (.bool (!r)) s') E s) : wpAny (model P w) A (call (.builtin "object.__ne__") [.ref x, b]) Q E s := by
  refine wpAny_call (codeAny_call_builtin (by decide +kernel) PySem.F.cmpEntry_ne (check_slot (i := "object.__ne__") (owner := "object") (n := "__ne__") (by decide +kernel) (by decide +kernel) (I.type.andThen (looks_mroIn X ho)) (PySem.F.cmpArgs_ne _ _) ?_))
  unfold Builtin.«object.__ne__»
  refine wpAny_bind (m := slotArgs "__ne__" 1 _) (wpAny_pure ?_)
  refine wpAny_bind (m := cRoomFor _ _) (wpAny_cRoomFor hu ?_)
  refine wpAny_bind (m := callSpecialIfBound? (.ref x) (Str.ofString "__eq__") _) (ifBound_K X I he hf (wpAny_mono h (fun r s' hq => ?_) fun _ _ y => y))
  obtain ⟨r, rfl, hq⟩ := hq
  exact wpAny_bind (wpAny_truthy_bool (wpAny_pure hq))
theorem ne_own {Q : Value → Shared → Prop} (hu : A.units < cLine) (hu1 : A.in1.units < cLine) (X : K.In s.heap) (I : InstAt s.heap x ox C od) (hb : Looks (model P w) s.heap (typeOf b) tb) (hn : notFirst K C tb = true)
    (hs : findIn K (.ref C) "__ne__" = some (some (.builtin "object.__ne__"))) (ho : mroIn K C (.type "object") = some true) (he : findIn K (.ref C) "__eq__" = some (some (.ref f))) (hf : isFn K (.ref f) = true)
    (h : wpAny (model P w) A.in1 (call (.ref f) [.ref x, b]) (fun v s' => ∃ r, v = .bool r ∧ Q (.bool (!r)) s') E s) : wpAny (model P w) A (richCompare .NotEq (.ref x) b) Q E s := by
  have one : wpAny (model P w) A (tryCompare (.ref x) "__ne__" b) (fun r s' => ∃ v, r = some v ∧ Q v s') E s := by
    unfold tryCompare
    refine wpAny_bind (ifBoundB X I hs PySem.F.slot_tuple_iterator_ne.bind (ne_slot hu1 X I ho he hf (wpAny_mono h (fun v s' hv => ?_) fun _ _ e => e)))
    obtain ⟨r, rfl, hq⟩ := hv
    exact ⟨r, rfl, wpAny_pure ⟨_, rfl, hq⟩⟩
  unfold richCompare
  simp only [oneThing_ref]
  refine wpAny_holding (wpAny_bind (wpAny_cRoomFor hu ?_))
  refine wpAny_bind (I.type.here (wpAny_bind (hb.here ?_)))
  split
  · rename_i q
    have e : subIn K tb (.ref C) = some false := by
      rcases Bool.or_eq_true_iff.mp hn with e | e
      · rw [beq_iff_eq.mp e] at q
        simp at q
      · exact beq_iff_eq.mp e
    refine wpAny_bind ((looks_subIn X e).here ?_)
    simp only [Bool.false_eq_true, if_false]
    refine wpAny_bind (wpAny_mono one (fun r s' z => ?_) fun _ _ e => e)
    obtain ⟨v, rfl, hq⟩ := z
    exact wpAny_pure hq
  · refine wpAny_bind (wpAny_pure ?_)
    simp only [Bool.false_eq_true, if_false]
    refine wpAny_bind (wpAny_mono one (fun r s' z => ?_) fun _ _ e => e)
    obtain ⟨v, rfl, hq⟩ := z
    exact wpAny_pure hq
open Builtin in
theorem repr_own {Q : Value → Shared → Prop} (hu : A.in1.units < cLine) (X : K.In s.heap) (I : InstAt s.heap x ox C od) (hs : findIn K (.ref C) "__repr__" = some (some (.ref f))) (hf : isFn K (.ref f) = true)
    (h : wpAny (model P w) A.in1 (call (.ref f) [.ref x]) (fun v s' => ∃ y t, v = .str y t ∧ Q v s') E s) : wpAny (model P w) A (call (.builtin "repr") [.ref x]) Q E s := by
  refine Calls.call_function_entry PySem.F.kind_repr PySem.F.plain_repr PySem.F.entry_repr (PySem.F.args_repr1 _) ?_
  unfold Builtin.«repr»
  refine wpAny_bind (m := oneArg "repr" _) (wpAny_pure ?_)
  refine wpAny_bind (m := cRoomFor _ _) (wpAny_cRoomFor hu ?_)
  refine wpAny_bind (m := specialOf (.ref x) (Str.ofString "__repr__")) (wpAny_bind (I.type.here ((looks_findIn X hs).here ?_)))
  simp only [Option.isNone_some, Bool.false_eq_true, if_false]
  refine wpAny_bind (m := callSpecialIfBound? (.ref x) (Str.ofString "__repr__") _) (ifBound_K X I hs hf (wpAny_mono h (fun r s' hq => ?_) fun _ _ y => y))
  obtain ⟨y, t, rfl, hq⟩ := hq
  refine wpAny_bind (wpAny_isInstance (T := "str") (b := true) (typeIs_str _ _ _) isSubtype_str_str ?_)
  rw [if_pos rfl]
  exact wpAny_pure ⟨_, rfl, hq⟩
end
section
variable {X : Cx} {n : Nat} {pins : List (Addr × Obj)} {σ : L2.St} {H : Hp} {s : Shared} {A : Around} {CX : CXT} {f : Addr} {fd : FuncData} {ps : List Str} {sp : Sp} {E : XK} {C a : Addr}
theorem own_call {us : List Value} {vs : List V} {Q : VK} (F : FnOk X.prog X.w X.K X.mg X.base CX n f fd ps sp) (hb : Binds X.K fd ps []) (hx : Passes CX X E) (sb : Sub X n A) (I : Inv X pins σ H s) (r : Vals vs us) (h : sp vs H Q E) :
    wpAny (model X.prog X.w) A (call (.ref f) us) (EP X pins σ Q) X.xe s := by
  have e0 : Env0 X.prog X.w X.K X.mg X.base A X.stack s H := by
    have e := I.env0
    exact ⟨by rw [sb.fr]; exact e.frames, e.mod, e.bs, e.bsz, e.funs, e.frf, e.hok, e.bare⟩
  have hl := F.len _ _ _ _ h
  have hb2 := hb s us I.kIn (by rw [List.append_nil, ← r.length]; exact hl)
  rw [List.append_nil] at hb2
  refine wpAny_call (codeAny_mono (F.run A X.stack s H ⟨us, []⟩ us vs _ E sb.room e0 hb2 r h) fun q s' hq => ?_)
  cases q with
  | error e => exact hx pins σ H s e s' I hq
  | ok fl =>
    cases fl with
    | ret u => exact I.after hq
    | next => exact False.elim hq
    | brk => exact False.elim hq
    | cont => exact False.elim hq
theorem own_at (I : Inv X pins σ H s) {dx : Addr} {fs : List (Str × V)} (h : H a = some (.ins C dx fs)) : ∃ ox od, PySem.W.InstAt s.heap a ox C od := by
  obtain ⟨mA, J, _⟩ := ins_get I.hok h
  obtain ⟨od, J, _⟩ := J.look
  exact ⟨_, _, J⟩
/-- what of the text a class with its own == must have -/
structure OwnE (K : PySem.W.Frag) (C f : Addr) : Prop where
  eq : PySem.W.findIn K (.ref C) "__eq__" = some (some (.ref f))
  fn : PySem.W.isFn K (.ref f) = true
  ne : PySem.W.findIn K (.ref C) "__ne__" = some (some (.builtin "object.__ne__"))
  ob : PySem.W.mroIn K C (.type "object") = some true
def rEqO (K : PySem.W.Frag) (C : Addr) (sp : Sp) (E : XK) : R2 := fun x y H Q => ∃ a dx fs tb, x = .ref a ∧ H a = some (.ins C dx fs) ∧ TyX K H y tb ∧ PySem.W.notFirst K C tb = true ∧ sp [x, y] H Q E
def rNeO (K : PySem.W.Frag) (C : Addr) (sp : Sp) (E : XK) : R2 := fun x y H Q => ∃ a dx fs tb, x = .ref a ∧ H a = some (.ins C dx fs) ∧ TyX K H y tb ∧ PySem.W.notFirst K C tb = true ∧ sp [x, y] H (fun v H' => ∃ c, v = .bl c ∧ Q (.bl (!c)) H') E
theorem rc_own {A : Around} {sb : Sub X n A} (F : FnOk X.prog X.w X.K X.mg X.base CX n f fd ps sp) (hb : Binds X.K fd ps []) (hx : Passes CX X E) (O : OwnE X.K C f) (I : Inv X pins σ H s) {x y : V} {v u : Value} (rx : RelV x v) (ry : RelV y u) {Q : VK}
    (h : rEqO X.K C sp E x y H Q) : wpAny (model X.prog X.w) A (richCompare .Eq v u) (EP X pins σ Q) X.xe s := by
  obtain ⟨a, dx, fs, tb, rfl, ha, ty, nf, hq⟩ := h
  obtain rfl : v = Value.ref a := rx
  obtain ⟨ox, od, J⟩ := own_at I ha
  obtain ⟨Pk, kt, hp, _⟩ := kit_of I ry ty
  obtain ⟨m, hF⟩ := I.fr
  refine PySem.W.cmp_K (op := .Eq) sb.room.units0 hF I.ok.mod.kin J (kt.ty _ _ I.kIn hp) nf O.eq O.fn (wpAny_mono (own_call (vs := [.ref a, y]) F hb hx sb I (.cons (show Value.ref a = Value.ref a from rfl) (.cons ry .nil)) hq) (fun r s' z => ?_) fun _ _ e => e)
  obtain ⟨w, H', I', rw', hw⟩ := z
  cases r <;> first | exact ⟨w, H', I', rw', hw⟩ | (exfalso; cases w <;> first | exact nomatch rw' | (obtain ⟨_, e⟩ := rw'; exact nomatch e))
theorem op_eqO (F : FnOk X.prog X.w X.K X.mg X.base CX n f fd ps sp) (hr : Room n X.A) (hb : Binds X.K fd ps []) (hx : Passes CX X E) (O : OwnE X.K C f) : OpR X (compareOp .Eq) (rEqO X.K C sp E) := by
  intro pins s σ H x y v u Q I rx ry h
  exact rc_own (sb := ⟨hr, rfl⟩) F hb hx O I rx ry h
theorem op_neO (F : FnOk X.prog X.w X.K X.mg X.base CX n f fd ps sp) (hr : Room (n + 1) X.A) (hb : Binds X.K fd ps []) (hx : Passes CX X E) (O : OwnE X.K C f) : OpR X (compareOp .NotEq) (rNeO X.K C sp E) := by
  intro pins s σ H x y v u Q I rx ry h
  obtain ⟨a, dx, fs, tb, rfl, ha, ty, nf, hq⟩ := h
  obtain rfl : v = Value.ref a := rx
  obtain ⟨ox, od, J⟩ := own_at I ha
  obtain ⟨Pk, kt, hp, _⟩ := kit_of I ry ty
  show wpAny (model X.prog X.w) X.A (richCompare .NotEq (.ref a) u) (EP X pins σ Q) X.xe s
  have sb : Sub X n X.A.in1 := Sub.in1 (X := X) (A := X.A) ⟨hr, rfl⟩
  refine ne_own hr.units0 sb.room.units0 I.kIn J (kt.ty _ _ I.kIn hp) nf O.ne O.ob O.eq O.fn (wpAny_mono (own_call (vs := [.ref a, y]) F hb hx sb I (.cons (show Value.ref a = Value.ref a from rfl) (.cons ry .nil)) hq) (fun r s' z => ?_) fun _ _ e => e)
  obtain ⟨w, H', I', rw', c, rfl, hw⟩ := z
  cases rw'
  exact ⟨c, rfl, .bl _, H', I', rfl, hw⟩
/-- str(o), repr(o) -/
def rShow (C : Addr) (sp : Sp) (E : XK) : List V → Hp → VK → Prop := fun vs H Q => ∃ a dx fs, vs = [V.ref a] ∧ H a = some (.ins C dx fs) ∧ sp [.ref a] H (fun v H' => ∃ y, v = .str y ∧ Q v H') E
theorem cr_strO (F : FnOk X.prog X.w X.K X.mg X.base CX n f fd ps sp) (hr : Room (n + 2) X.A) (hb : Binds X.K fd ps []) (hx : Passes CX X E) (hs : PySem.W.findIn X.K (.ref C) "__str__" = some (some (.ref f))) (hf : PySem.W.isFn X.K (.ref f) = true) : CallR X (.type "str") (rShow C sp E) := by
  intro pins s σ H vs us Q I r h
  obtain ⟨a, dx, fs, rfl, ha, hq⟩ := h
  rw [Vals.ref1 r]
  obtain ⟨ox, od, J⟩ := own_at I ha
  have sb1 : Sub X (n + 1) X.A.in1 := Sub.in1 (X := X) (A := X.A) ⟨hr, rfl⟩
  have sb : Sub X n X.A.in1.in1 := sb1.in1
  refine PySem.W.kso_call sb.room.units0 I.kIn J hs hf (wpAny_mono (own_call (vs := [.ref a]) F hb hx sb I (.cons (show Value.ref a = Value.ref a from rfl) .nil) hq) (fun r s' z => ?_) fun _ _ e => e)
  obtain ⟨w, H', I', rw', y, rfl, hw⟩ := z
  obtain ⟨t, rfl⟩ := rw'
  exact ⟨.str y, H', I', ⟨t, rfl⟩, hw⟩
theorem cr_reprO (F : FnOk X.prog X.w X.K X.mg X.base CX n f fd ps sp) (hr : Room (n + 1) X.A) (hb : Binds X.K fd ps []) (hx : Passes CX X E) (hs : PySem.W.findIn X.K (.ref C) "__repr__" = some (some (.ref f))) (hf : PySem.W.isFn X.K (.ref f) = true) : CallR X (.builtin "repr") (rShow C sp E) := by
  intro pins s σ H vs us Q I r h
  obtain ⟨a, dx, fs, rfl, ha, hq⟩ := h
  rw [Vals.ref1 r]
  obtain ⟨ox, od, J⟩ := own_at I ha
  have sb : Sub X n X.A.in1 := Sub.in1 (X := X) (A := X.A) ⟨hr, rfl⟩
  refine repr_own sb.room.units0 I.kIn J hs hf (wpAny_mono (own_call (vs := [.ref a]) F hb hx sb I (.cons (show Value.ref a = Value.ref a from rfl) .nil) hq) (fun r s' z => ?_) fun _ _ e => e)
  obtain ⟨w, H', I', rw', y, rfl, hw⟩ := z
  obtain ⟨t, rfl⟩ := rw'
  exact ⟨y, t, rfl, .str y, H', I', ⟨t, rfl⟩, hw⟩
end
end Z
namespace Z
open PySem L2
theorem kit_self {K : PySem.W.Frag} {C : Addr} : PySem.W.kitOne K (.ref C) (.ref C) = some true := by
  unfold PySem.W.kitOne
  rw [if_pos (by simp)]
theorem kit_notown {K : PySem.W.Frag} {C : Addr} {n : String} {b : Bool} (ic : PySem.W.isClsIn K C = true) (tm : PySem.W.typeIn K (.ref C) = some (.type "type")) (e : PySem.W.subIn K (.type n) (.ref C) = some b) : PySem.W.kitOne K (.type n) (.ref C) = some b := by
  unfold PySem.W.kitOne
  rw [if_neg (fun z => nomatch (eq_of_beq z : Value.type n = Value.ref C))]
  unfold PySem.W.kitCls
  dsimp only
  rw [if_pos]
  · exact e
  · rw [Bool.and_eq_true]
    exact ⟨ic, by rw [tm]; decide⟩
/-! making one -/
theorem s_make {C : Addr} {sp : Sp} {dvs : List V} {E : XK} {t : TA} {σ : L2.St} {H : Hp} {Q : VK} (k : t σ H fun vs H1 => ∀ x dx, H1 x = none → H1 dx = none → dx ≠ x →
    sp (.ref x :: (vs ++ dvs)) (upd (upd H1 dx (.own x)) x (.ins C dx [])) (fun v H2 => v = .non ∧ Q (.ref x) H2) E) : tMake C sp dvs E t σ H Q := k
theorem s_makeK {C : Addr} {n m : Nat} {sp : Sp} {gV : List V → List V → List V} {E : XK} {t tk : TA} {σ : L2.St} {H : Hp} {Q : VK} (k : t σ H fun vs H1 => tk σ H1 fun zs H2 => vs.length = n ∧ zs.length = m ∧ ∀ x dx, H2 x = none → H2 dx = none → dx ≠ x →
  sp (gV (.ref x :: vs) zs) (upd (upd H2 dx (.own x)) x (.ins C dx [])) (fun v H3 => v = .non ∧ Q (.ref x) H3) E) : tMakeK C n m sp gV E t tk σ H Q := k
theorem s_sFld {K : PySem.W.Frag} {ta tv : TE} {f : Str} {D : Ends} {σ : L2.St} {H : Hp} (k : tv σ H fun y H1 => ta σ H1 fun x H2 => ∃ a C dx fs, x = .ref a ∧ H2 a = some (.ins C dx fs) ∧ Cls K C ∧ NoAttr K C f ∧ fs.length < 1000 ∧
  D.nx σ (upd H2 a (.ins C dx (putF f y fs)))) : sFld K ta tv f D σ H := k
end Z

set_option Elab.async false
set_option linter.all false
set_option maxRecDepth 100000
namespace Z
open PySem L2
/-! x in a list, by the items' own == -/
section
open PySem.SeqAt PySem.SeqRoads2 PySem.MeetsSeq AutoSeq1 PyProof.Rows
variable {P : Program} {w : World} {A : Around}
theorem has_loop {R : Result → Shared → Prop} {l : Addr} {x : Value} {N : Nat} {e : Nat → Bool} {I : Nat → Shared → Prop}
    (turn : ∀ i s, I i s → ∃ (its : Array Value) (n : Nat), s.heap.get? l = some { cls := .type "list", data := .seq its n } ∧ its.size = N ∧ ∀ h : i < its.size, wpAny (model P w) A.in1 (eqBool its[i] x) (fun r s' => r = e i ∧ I (i + 1) s') (fun v s' => R (.error v) s') s)
    (fin : ∀ i s b, I i s → (b = true ↔ ∃ j, j < N ∧ e j = true) → R (.ok (.ret (.bool b))) s) :
    ∀ k i : Nat, N - i = k → i ≤ N → (∀ j, j < i → e j = false) → ∀ s, I i s → wpAny (model P w) A.in1 (Builtin.«list.__contains__.loop» ⟨[.ref l, x, rawInt i], []⟩) (GQ.FinOf P w A R) (fun v s' => R (.error v) s') s
  | 0, i, hk, hi, hf, s, h => by
    obtain ⟨its, n, hl, hn, _⟩ := turn _ _ h
    obtain rfl : i = N := by omega
    have hR := fin _ s false h ⟨fun z => (Bool.false_ne_true z).elim, fun ⟨j, hj, z⟩ => by rw [hf j hj] at z; exact z⟩
    obtain ⟨hp, g, d, tk, os⟩ := s
    wp_walk using wpAny_loadPart' hl
    rw [show its[((i : Nat) : Int).toNat]? = none from by simp; omega]
    wp_walk
    exact hR
  | k + 1, i, hk, hi, hf, s, h => by
    obtain ⟨its, n, hl, hn, ht⟩ := turn _ _ h
    have lt : i < its.size := by omega
    have ht := ht lt
    obtain ⟨hp, g, d, tk, os⟩ := s
    wp_walk using wpAny_loadPart' hl
    rw [show its[((i : Nat) : Int).toNat]? = some its[i] from by simp [lt]]
    refine wpAny_bind (wpAny_mono ht (fun r s2 h2 => ?_) fun _ _ z => z)
    obtain ⟨rfl, h2⟩ := h2
    cases eb : e i with
    | true =>
      have hR := fin _ s2 true h2 ⟨fun _ => ⟨i, by omega, eb⟩, fun _ => rfl⟩
      obtain ⟨hp2, g2, d2, tk2, os2⟩ := s2
      wp_walk
      exact hR
    | false =>
      have next := has_loop turn fin k (i + 1) (by omega) (by omega) (fun j hj => by
        by_cases q : j = i
        · rw [q]; exact eb
        · exact hf j (by omega)) s2 h2
      obtain ⟨hp2, g2, d2, tk2, os2⟩ := s2
      wp_walk
      rw [show ((i : Int) + 1) = ((i + 1 : Nat) : Int) from by omega]
      exact ⟨plainId_quiet plain_contains_loop _, codeAny_builtin entry_contains_loop (by
        rw [Around.under_plainId plain_contains_loop _]
        exact next)⟩
theorem in_own {E : Value → Shared → Prop} {l : Addr} {x : Value} {N : Nat} {e : Nat → Bool} {I : Nat → Shared → Prop} {Q : Value → Shared → Prop}
    (turn : ∀ i s, I i s → ∃ (its : Array Value) (n : Nat), s.heap.get? l = some { cls := .type "list", data := .seq its n } ∧ its.size = N ∧ ∀ h : i < its.size, wpAny (model P w) A.in1 (eqBool its[i] x) (fun r s' => r = e i ∧ I (i + 1) s') E s)
    (fin : ∀ i s b, I i s → (b = true ↔ ∃ j, j < N ∧ e j = true) → Q (.bool b) s) {s : Shared} (h : I 0 s) : wpAny (model P w) A (compareOp .In x (.ref l)) Q E s := by
  obtain ⟨its, n, hl, hn, _⟩ := turn _ _ h
  show wpAny _ A (do return .bool (← contains (.ref l) x)) Q E s
  refine wpAny_bind (wpAny_contains_slot ⟨_, hl, rfl⟩ F.slot_list_contains (wpAny_mono (GQ.call_here F.slot_list_contains ⟨_, hl, rfl⟩ F.entry_list_contains (F.args_list_contains_2 _ _)
    (Q := fun v s' => ∃ b, v = .bool b ∧ Q (.bool b) s') (E := E) ?_) (fun v s' hv => ?_) fun _ _ z => z))
  · have first := has_loop (A := A) (R := wants (fun v s' => ∃ b, v = .bool b ∧ Q (.bool b) s') E) turn (fun i s' b hI hb => ⟨b, rfl, fin i s' b hI hb⟩) _ 0 rfl (Nat.zero_le _) (fun j hj => absurd hj (Nat.not_lt_zero j)) s h
    obtain ⟨hp, g, d, tk, os⟩ := s
    wp_walk using wpAny_loadPart' hl
    exact ⟨plainId_quiet plain_contains_loop _, codeAny_builtin entry_contains_loop (by
      rw [Around.under_plainId plain_contains_loop _]
      exact first)⟩
  · obtain ⟨b, rfl, hq⟩ := hv
    exact wpAny_truthy_bool (wpAny_pure hq)
end
/-- what the own == of two instances answers, whatever has been made since -/
def spEqB (Rl : Addr → Addr → Hp → Bool → Prop) : Sp := fun vs H Q _ => ∃ a b r, vs = [.ref a, .ref b] ∧ Rl a b H r ∧ ∀ H', Ex H H' → Q (.bl r) H'
def rInO (C : Addr) (Rl : Addr → Addr → Hp → Bool → Prop) : R2 := fun x y H Q => ∃ (a : Addr) (dx : Addr) (fs : List (Str × V)) (p : Addr) (bs : List Addr) (e : Nat → Bool), x = .ref a ∧ y = .ref p ∧ H a = some (.ins C dx fs) ∧ H p = some (.lst (bs.map V.ref)) ∧
  (∀ i b, bs[i]? = some b → (∃ dy gs, H b = some (.ins C dy gs)) ∧ (∀ H', Ex H H' → Rl b a H' (e i)) ∧ (b = a → e i = true)) ∧ ∀ H' r, Ex H H' → (r = true ↔ ∃ j, j < bs.length ∧ e j = true) → Q (.bl r) H'
section
variable {X : Cx} {n : Nat} {CX : CXT} {f C : Addr} {fd : FuncData} {ps : List Str} {sp : Sp} {E : XK} {Rl : Addr → Addr → Hp → Bool → Prop}
theorem op_inO (F : FnOk X.prog X.w X.K X.mg X.base CX n f fd ps sp) (hsp : ∀ a b H r, Rl a b H r → ∀ Q : VK, (∀ H', Ex H H' → Q (.bl r) H') → sp [.ref a, .ref b] H Q E) (hr : Room (n + 1) X.A) (hb : Binds X.K fd ps []) (hx : Passes CX X E) (O : OwnE X.K C f)
    (ty : ∀ {H : Hp} {a dx : Addr} {fs : List (Str × V)}, H a = some (.ins C dx fs) → TyX X.K H (.ref a) (.ref C)) (nf : PySem.W.notFirst X.K C (.ref C) = true) : OpR X (compareOp .In) (rInO C Rl) := by
  intro pins s σ H x y v u Q I rx ry h
  obtain ⟨a, dx, fs, p, bs, e, rfl, rfl, ha, hp, hbs, q⟩ := h
  obtain rfl : v = Value.ref a := rx
  obtain rfl : u = Value.ref p := ry
  have sb : Sub X n X.A.in1 := Sub.in1 (X := X) (A := X.A) ⟨hr, rfl⟩
  refine in_own (N := bs.length) (e := e) (I := fun i s' => ∃ H', Inv X pins σ H' s' ∧ Ex H H') (fun i s' h => ?_) (fun i s' b h hb => ?_) ⟨H, I, Ex.refl⟩
  · obtain ⟨H1, I1, e1⟩ := h
    obtain ⟨z, its, m, rv, hl⟩ := (show ObjOk X.prog X.w H1 s'.heap p (.lst (bs.map V.ref)) from I1.hok p _ (e1 _ _ hp))
    have len : its.toArray.size = bs.length := by rw [List.size_toArray, ← rv.length, List.length_map]
    refine ⟨its.toArray, m, hl, len, fun hi => ?_⟩
    have hi2 : i < bs.length := by omega
    obtain ⟨u, hu, ru⟩ := rv.get (show (bs.map V.ref)[i]? = some (.ref bs[i]) from by rw [List.getElem?_map, List.getElem?_eq_getElem hi2]; rfl)
    obtain rfl : u = Value.ref bs[i] := ru
    have en : its.toArray[i] = Value.ref bs[i] := by
      have : its[i]? = some its.toArray[i] := by
        have : i < its.length := by simpa using hi
        rw [List.getElem?_eq_getElem this] <;> simp
      rw [this] at hu
      exact Option.some.inj hu
    rw [en]
    obtain ⟨⟨dy, gs, hy⟩, hR, hself⟩ := hbs i bs[i] (List.getElem?_eq_getElem hi2)
    by_cases hab : bs[i] = a
    · rw [hab, hself hab]
      exact SeqAt.EqAt.same (A := X.A.in1) (s := s') (.ref a) X.prog X.w X.xe _ ⟨rfl, H1, I1, e1⟩
    · refine GQ.eqBool_refG hab ?_
      refine wpAny_mono (rc_own (sb := sb) (x := .ref bs[i]) (y := .ref a) (Q := fun v H' => v = .bl (e i) ∧ Ex H1 H') F hb hx O I1 rfl rfl ⟨bs[i], dy, gs, _, rfl, e1 _ _ hy, ty (e1 _ _ ha), nf, hsp _ _ _ _ (hR H1 e1) _ fun H' e' => ⟨rfl, e'⟩⟩) (fun r s2 z => ?_) fun _ _ z => z
      obtain ⟨v, H2, I2, rv2, rfl, e2⟩ := z
      exact ⟨e i, rv2, rfl, H2, I2, e1.trans e2⟩
  · obtain ⟨H1, I1, e1⟩ := h
    exact ⟨.bl b, H1, I1, rfl, q H1 b e1 hb⟩
end
end Z

set_option Elab.async false
set_option linter.all false
set_option maxRecDepth 100000
namespace Z
open PySem L2
/-! set of a tuple of ints -/
section
open PySem.Spec PyProof.Rows
variable {P : Program} {w : World} {A : Around}
set_option maxHeartbeats 4000000 in
theorem set_callT {E : Value → Shared → Prop} {s : Shared} {l : Addr} {its : Array Value} {ns : List Int} {Q : Value → Shared → Prop}
    (calm : A.handled = none) (hl : s.heap.IsTuple l its) (hi : IntsAre its.toList ns) (room : its.size + 1 < scanBound)
    (h : ∀ (h' : Heap) (tk : Nat) (S : Int → Bool) (m : Nat), SetR w h' s.heap.objs.size S m → m ≤ ns.length → (∀ x, S x = true ↔ x ∈ ns) → (∀ b o, s.heap.get? b = some o → h'.get? b = some o) → Q (.ref s.heap.objs.size) { s with heap := h', toks := tk }) :
    wpAny (model P w) A (call (.type "set") [.ref l]) Q E s := by
  obtain ⟨c, tl, cm⟩ := F.called_set.mro
  have c1 := F.called_set.made
  have c2 := F.called_set.sub
  refine wpAny_call (codeAny_of_tree ?_)
  show wpAny _ _ (callAny (.type "set") _) _ _ _
  refine wpAny_pure ⟨Code.quiet_builtin _ (by decide +kernel), codeAny_builtin F.entry_type_call ?_⟩
  rw [PySem.Around.under_plain (weight_type_call_type "set" [.ref l] []) rfl]
  have c3 := F.called_set.notType
  have c4 := F.called_set.canCreate
  have c5 := PySem.F.typeCall_set_1 (.ref l)
  repeat (any_goals (first | assumption | wp_step))
  generalize eO : (!w.params.followText "set-order") = led
  refine codeAny_mono (set_new1 (.ref l) (E := E) (Q := fun v s1 => v = .ref s.heap.objs.size ∧ s1 = { s with heap := s.heap.push { cls := .type "set", dict := none, data := .set #[] 0 (.fresh 0 0 led) } }) (by rw [eO]; exact ⟨rfl, rfl⟩)) fun r s1 hr => ?_
  cases r with
  | error e => exact hr
  | ok fl =>
    cases fl with
    | ret v =>
      obtain ⟨rfl, rfl⟩ := hr
      have hO : (s.heap.push { cls := .type "set", dict := none, data := .set #[] 0 (.fresh 0 0 led) }).get? s.heap.objs.size = some { cls := .type "set", dict := none, data := .set #[] 0 (.fresh 0 0 led) } := Heap.get?_push_size _ rfl
      have hT : Shared.TypeIs { s with heap := s.heap.push { cls := .type "set", dict := none, data := .set #[] 0 (.fresh 0 0 led) } } (.ref s.heap.objs.size) "set" := ⟨_, hO, rfl⟩
      have c6 := F.called_set.init.lookup
      have c7 := F.called_set.init.bind (.ref s.heap.objs.size)
      have hR0 : SetR w (s.heap.push { cls := .type "set", dict := none, data := .set #[] 0 (.fresh 0 0 led) }) s.heap.objs.size (fun _ => false) 0 := by
        rw [← eO]
        exact setR_fresh w
      repeat (any_goals (first | assumption | wp_step))
      refine codeAny_mono (codeAny_call_builtin (R := wants (fun r s2 => r = .none ∧ ∃ h' tk S m, s2 = { s with heap := h', toks := tk } ∧ SetR w h' s.heap.objs.size S m ∧ m ≤ ns.length ∧ (∀ x, S x = true ↔ x ∈ ns) ∧ (∀ b o, s.heap.get? b = some o → h'.get? b = some o)) E)
        F.called_set.init.plain F.entry_set_init (PySem.check_set_init_1 hT ?_)) fun r2 s2 hr2 => ?_
      · obtain ⟨⟨oc, od, oo, os⟩, g1, g2, nl, g3⟩ := hl
        simp only at g2 g3
        subst g2
        subst g3
        have g4 : (s.heap.push { cls := .type "set", dict := none, data := .set #[] 0 (.fresh 0 0 led) }).get? l = some { cls := .type "tuple", dict := od, data := .seq its nl, slots := os } := Heap.get?_push_of_some _ g1
        have n1 := PySem.F.sub_tuple_set
        have n2 := PySem.F.sub_tuple_frozenset
        have n3 : (Value.type "tuple" == Value.type "dict") = false := by decide
        have g5 : (s.heap.push { cls := .type "set", dict := none, data := .set #[] 0 (.fresh 0 0 led) }).IsTuple l its := ⟨_, g4, rfl, nl, rfl⟩
        unfold Builtin.«set.__init__» noKeywords Builtin.Frozenset.updateFrom
        generalize hPI : pyIter = PI
        wp_walk
        subst hPI
        refine wpAny_pyIter_tuple g5 ?_
        refine wpAny_bind (wpAny_runValue ?_)
        have lt : l < s.heap.objs.size := Heap.lt_size g1
        have calm3 : A.in1.in1.in1.handled = none := by simp [calm]
        have ne1 : l ≠ (s.heap.push { cls := .type "set", dict := none, data := .set #[] 0 (.fresh 0 0 led) }).objs.size := by
          rw [Heap.size_push]
          exact Nat.ne_of_lt (Nat.lt_succ_of_lt lt)
        have ne2 : s.heap.objs.size ∉ [(s.heap.push { cls := .type "set", dict := none, data := .set #[] 0 (.fresh 0 0 led) }).objs.size, l] := by
          rw [Heap.size_push]
          simp only [List.mem_cons, List.mem_singleton, List.not_mem_nil, or_false, not_or]
          exact ⟨Nat.ne_of_lt (Nat.lt_succ_self _), Nat.ne_of_gt lt⟩
        refine set_upd ((Walks.tuple calm3 _ l ne1 its).toS) s.heap.objs.size ne2 ns (by rw [← hi.length, Array.length_toList]) (fun i v hv => PyProof.Rows.IntsAre.int_at hi i v (by rw [Array.getElem?_toList]; exact hv)) room (its.size - 0) 0 0 _ _ (by omega) (Nat.zero_le _)
          ⟨⟨_, Heap.get?_push_size _ rfl, rfl, rfl⟩, g5.push _⟩ (hR0.at fun o e => Heap.get?_push_of_some _ e) (Nat.le_refl _) (fun x => by simp) fun s' S' m' mv hS hm hx => ?_
        obtain ⟨h', g', d', tk', os'⟩ := s'
        obtain rfl : g' = s.gens := mv.gens
        obtain rfl : d' = s.drawn := mv.drawn
        obtain rfl : os' = s.os := mv.os
        refine wpAny_pure (wpAny_pure ⟨rfl, h', tk', S', m', rfl, hS, by rw [← hi.length, Array.length_toList]; exact hm, hx, fun b o e => ?_⟩)
        have b1 := Heap.lt_size e
        refine mv.heap b o ?_ (Heap.get?_push_of_some _ (Heap.get?_push_of_some _ e))
        rw [Heap.size_push]
        simp only [List.mem_cons, List.mem_singleton, List.not_mem_nil, or_false, not_or]
        exact ⟨Nat.ne_of_lt b1, Nat.ne_of_lt (Nat.lt_succ_of_lt b1)⟩
      · cases r2 with
        | error e => exact hr2
        | ok fl2 =>
          cases fl2 with
          | ret r =>
            obtain ⟨rfl, h', tk, S, m, rfl, q1, q2, q3, q4⟩ := hr2
            repeat (any_goals (first | assumption | wp_step))
            exact h _ _ _ _ q1 q2 q3 q4
          | _ => exact hr2.elim
    | _ => exact hr.elim
end
def rSetT (w : World) (K : PySem.W.Frag) : List V → Hp → VK → Prop := fun xs H Q => ∃ (a : Addr) (ns : List Int), xs = [V.ref a] ∧ SqT K H a (ns.map V.int) ∧ ns.length + 1 < scanBound ∧ ∀ p S m, H p = none → m ≤ ns.length → (∀ x, S x = true ↔ x ∈ ns) → Q (.ref p) (upd H p (SetO w p S m))
theorem cr_setT {X : Cx} (hc : X.calm = true) : CallR X (.type "set") (rSetT X.w X.K) := by
  intro pins s σ H xs us Q I r h
  obtain ⟨a, ns, rfl, ha, room, q⟩ := h
  obtain ⟨its, rv, hl, _⟩ := I.tuple ha
  rw [Vals.ref1 r]
  have hi : PyProof.Rows.IntsAre its ns := Vals.ints rv
  exact set_callT (I.ok.hd hc) hl hi (by rw [List.size_toArray, hi.length]; exact room) fun h' tk S m hS hm hx keep => ⟨.ref _, _, I.laid (t' := tk) keep (Nat.le_refl _) (setO_new hS), rfl, q _ S m (I.hok.fresh (Nat.le_refl _)) hm hx⟩
theorem s_setOfT {w : World} {K : PySem.W.Frag} {H : Hp} {Q : VK} {a : Addr} {ns : List Int} (ha : SqT K H a (ns.map V.int)) (room : ns.length + 1 < scanBound) (k : ∀ p S m H', H p = none → Ex H H' → H' p = some (SetO w p S m) → m ≤ ns.length → (∀ x, S x = true ↔ x ∈ ns) → Q (.ref p) H') : rSetT w K [.ref a] H Q :=
  ⟨a, ns, rfl, ha, room, fun p S m hp h1 h2 => k p S m _ hp (Ex.new hp) upd_same h1 h2⟩
end Z

set_option Elab.async false
set_option linter.all false
set_option maxRecDepth 100000
set_option maxHeartbeats 1000000
namespace Z
open PySem L2 PyProof.Rows
/-! sorted of a list of tuples of ints, of one length, any number of them -/
theorem lx_refl : ∀ a : List Int, HT.lexLt a a = false
  | [] => rfl
  | x :: a => by rw [HT.lexLt_cons, if_pos rfl]; exact lx_refl a
theorem lx_asym : ∀ {a b : List Int}, HT.lexLt a b = true → HT.lexLt b a = false
  | [], [], h => by cases h
  | [], _ :: _, _ => rfl
  | _ :: _, [], h => by cases h
  | x :: a, y :: b, h => by
    rw [HT.lexLt_cons] at h ⊢
    by_cases e : x = y
    · subst e
      rw [if_pos rfl] at h ⊢
      exact lx_asym h
    · rw [if_neg e] at h
      rw [if_neg (fun z => e z.symm)]
      have := of_decide_eq_true h
      exact decide_eq_false (by omega)
theorem lx_tr : ∀ {a b c : List Int}, HT.lexLt b a = false → HT.lexLt c b = false → HT.lexLt c a = false
  | [], [], c, _, h => h
  | [], _ :: _, [], _, _ => rfl
  | [], y :: b, z :: c, h1, h2 => rfl
  | x :: a, [], c, h1, h2 => by cases h1
  | x :: a, y :: b, [], h1, h2 => by cases h2
  | x :: a, y :: b, z :: c, h1, h2 => by
    rw [HT.lexLt_cons] at h1 h2 ⊢
    by_cases e1 : y = x
    · subst e1
      rw [if_pos rfl] at h1
      by_cases e2 : z = y
      · subst e2
        rw [if_pos rfl] at h2 ⊢
        exact lx_tr h1 h2
      · rw [if_neg e2] at h2 ⊢
        exact h2
    · rw [if_neg e1] at h1
      have h3 := of_decide_eq_false h1
      by_cases e2 : z = y
      · subst e2
        rw [if_neg e1]
        exact h1
      · rw [if_neg e2] at h2
        have h4 := of_decide_eq_false h2
        rw [if_neg (by omega)]
        exact decide_eq_false (by omega)
theorem lx_anti : ∀ {a b : List Int}, HT.lexLt a b = false → HT.lexLt b a = false → a = b
  | [], [], _, _ => rfl
  | [], _ :: _, h, _ => by cases h
  | _ :: _, [], _, h => by cases h
  | x :: a, y :: b, h1, h2 => by
    rw [HT.lexLt_cons] at h1 h2
    by_cases e : x = y
    · subst e
      rw [if_pos rfl] at h1 h2
      rw [lx_anti h1 h2]
    · rw [if_neg e] at h1
      rw [if_neg (fun z => e z.symm)] at h2
      have := of_decide_eq_false h1
      have := of_decide_eq_false h2
      omega
theorem lx_swo {α : Type} (k : α → List Int) : SrtO.Swo fun x y => HT.lexLt (k x) (k y) := ⟨fun _ _ h => lx_asym h, fun _ _ _ h1 h2 => lx_tr h1 h2⟩
/-- there is one sorted arrangement -/
theorem lx_uniq : ∀ {a b : List (List Int)}, a.Perm b → a.Pairwise (fun x y => HT.lexLt y x = false) → b.Pairwise (fun x y => HT.lexLt y x = false) → a = b
  | [], b, h, _, _ => (List.Perm.eq_nil h.symm).symm
  | x :: a, [], h, _, _ => absurd h.length_eq (by simp)
  | x :: a, y :: b, h, ha, hb => by
    have h1 : HT.lexLt x y = false := by
      rcases List.mem_cons.mp (h.mem_iff.mp (List.mem_cons_self (a := x) (l := a))) with e | hx
      · rw [e]; exact lx_refl _
      · exact (List.pairwise_cons.mp hb).1 x hx
    have h2 : HT.lexLt y x = false := by
      rcases List.mem_cons.mp (h.mem_iff.mpr (List.mem_cons_self (a := y) (l := b))) with e | hy
      · rw [e]; exact lx_refl _
      · exact (List.pairwise_cons.mp ha).1 y hy
    have e := lx_anti h1 h2
    subst e
    rw [lx_uniq h.cons_inv (List.pairwise_cons.mp ha).2 (List.pairwise_cons.mp hb).2]
section
open SrtO
variable {prog : Program} {w : World} {A : Around} {E : Value → Shared → Prop} {s : Shared}
theorem lex_lx {xs ys : List Value} {ns ms : List Int} {Q : Bool → Shared → Prop} {b : Bool} (i : Nat) (hx : IntsAre xs ns) (hy : IntsAre ys ms) (hl : ns.length = ms.length)
    (h : Q (HT.lexLt ns ms) s) : PySem.W.KatLex prog w A b false Q (xs.zip ys) i s := by
  induction hx generalizing ys ms i with
  | nil =>
    cases hy with
    | nil => exact PySem.W.kat_nil h
    | cons q u hy => simp at hl
  | @cons p t xs ns hx ih =>
    cases hy with
    | nil => simp at hl
    | @cons q u ys ms hy =>
      have hl' : ns.length = ms.length := by simpa using hl
      show PySem.W.KatLex prog w A b false Q ((Value.int p t, Value.int q u) :: xs.zip ys) i s
      refine PySem.W.kat_cons (wpAny_eqBool_int ?_)
      rw [HT.lexLt_cons] at h
      by_cases e : p = q
      · subst e
        rw [beq_self_eq_true]
        rw [if_pos rfl] at h
        refine PySem.W.kat_yes ?_
        exact ih (i + 1) hy hl' h
      · rw [show (p == q) = false from beq_eq_false_iff_ne.mpr e]
        rw [if_neg e] at h
        refine PySem.W.kat_no (TS.oneLt_ints _ ?_)
        exact h
/-- tuples of d ints, k says which -/
def TupsK (h : Heap) (d : Nat) (k : Value → List Int) (vs : List Value) : Prop := ∀ v ∈ vs, TS.TupInts h v (k v) ∧ (k v).length = d
theorem TupsK.keeps {h h' : Heap} {d : Nat} {k : Value → List Int} {vs : List Value} (x : TupsK h d k vs) (kk : ∀ b o, h.get? b = some o → o.cls = .type "tuple" → h'.get? b = some o) : TupsK h' d k vs := fun v hv => ⟨(x v hv).1.keeps kk, (x v hv).2⟩
theorem firsts_k {h : Heap} {d : Nat} {k : Value → List Int} (hd : 1 ≤ d) : ∀ vs : List Value, TupsK h d k vs → ∃ fs, PySem.W.KatTups h vs fs ∧ fs.length = vs.length ∧ ∀ f, f ∈ fs → ∃ n t, f = Value.int n t
  | [], _ => ⟨[], PySem.W.KatTups.nil, rfl, fun f hf => by simp at hf⟩
  | v :: vs, x => by
    obtain ⟨fs, kt, hl, hi⟩ := firsts_k hd vs fun u hu => x u (List.mem_cons_of_mem _ hu)
    obtain ⟨⟨a, xs, rfl, ⟨o, ho, hc, n, hdt⟩, i⟩, hn⟩ := x v (List.mem_cons_self ..)
    obtain ⟨y, ys, e⟩ : ∃ y ys, xs.toList = y :: ys := by
      cases q : xs.toList with
      | nil =>
        rw [q] at i
        have l := i.length
        rw [List.length_nil, hn] at l
        omega
      | cons y ys => exact ⟨y, ys, rfl⟩
    obtain ⟨m, t, hy⟩ := i.all y (by rw [e]; exact List.mem_cons_self ..)
    refine ⟨y :: fs, PySem.W.KatTups.cons ho hc hdt ?_ kt, by simp [hl], ?_⟩
    · have z := congrArg (fun l : List Value => l[0]?) e
      simpa using z
    · intro f hf
      rcases List.mem_cons.mp hf with rfl | hf
      · exact ⟨m, t, hy⟩
      · exact hi f hf
theorem tups_cmp {d : Nat} {k : Value → List Int} {vs : List Value} (x : TupsK s.heap d k vs) : Cmp prog w A s (tuples' true) (fun p => p.1 ∈ vs) (lt2 fun v u => HT.lexLt (k v) (k u)) := by
  intro p q hm hm'
  obtain ⟨h1, n1⟩ := x _ hm
  obtain ⟨h2, n2⟩ := x _ hm'
  show wpAny (model prog w) A (keyLt' (tuples' true) p.1 q.1) (fun r s' => s' = s ∧ r = HT.lexLt (k p.1) (k q.1)) (fun _ _ => False) s
  generalize k p.1 = ns at h1 n1 ⊢
  generalize k q.1 = ms at h2 n2 ⊢
  obtain ⟨a, xs, e1, ⟨o, ho, hc, n, hdt⟩, i⟩ := h1
  obtain ⟨a', ys, e2, ⟨o', ho', hc', n', hdt'⟩, i'⟩ := h2
  rw [e1, e2]
  refine PySem.W.kat_lt ho hdt ho' hdt' ?_
  have sz : decide (xs.size < ys.size) = false := by
    have l1 := i.length
    have l2 := i'.length
    rw [Array.length_toList] at l1 l2
    exact decide_eq_false (by omega)
  rw [sz]
  exact lex_lx 0 i i' (by omega) ⟨rfl, rfl⟩
theorem tups_sortable {a : Addr} {vs : List Value} {d : Nat} {k : Value → List Int} (hd : 1 ≤ d) (h0 : 0 < vs.length) (x : TupsK s.heap d k vs) (ha : ∀ o, s.heap.get? a = some o → o.cls ≠ .type "tuple") : SortableO prog w A s a vs fun v u => HT.lexLt (k v) (k u) := by
  intro h' keep
  have x' : TupsK h' d k vs := x.keeps fun b o e c => keep b o (fun z => by subst z; exact ha o e c) e
  obtain ⟨fs, h1, h2, h3⟩ := firsts_k hd vs x'
  refine ⟨tuples' true, fun Q E hq => ?_, tups_cmp x'⟩
  refine PySem.W.kat_kind (T := .type "int") h1 (by omega) (fun f hm => ?_) (by rfl) ?_
  · obtain ⟨n, t, rfl⟩ := h3 f hm
    exact PySem.W.Looks.now
  · have e : (Value.type "int" != Value.type "tuple") = true := by first | decide +kernel | rfl | decide
    rw [e]
    exact hq
end
/-- sorted(xs), xs a list of tuples of d ints, k says which -/
def rSortTk (K : PySem.W.Frag) : List V → Hp → VK → Prop := fun vs H Q => ∃ (a : Addr) (xs : List V) (d : Nat) (k : V → List Int), vs = [V.ref a] ∧ 1 ≤ d ∧ SqL K H a xs ∧ (∀ x ∈ xs, ∃ t, x = V.ref t ∧ SqT K H t ((k x).map V.int) ∧ (k x).length = d) ∧
  ∀ ys p, ys.Perm xs → (ys.map k).Pairwise (fun x y => HT.lexLt y x = false) → H p = none → Q (.ref p) (upd H p (.lst ys))
section
variable {X : Cx}
theorem cr_sortTk : CallR X (.builtin "sorted") (rSortTk X.K) := by
  intro pins s σ H vs us Q I r h
  obtain ⟨a, xs, d, k, rfl, hd, hs, hx, q⟩ := h
  obtain ⟨its, rv, hl, hz⟩ := I.list hs
  rw [Vals.ref1 r]
  obtain ⟨e1, e2⟩ := refs_back rv fun x m => by
    obtain ⟨t, e, _⟩ := hx x m
    exact ⟨t, e⟩
  have hp : TupsK s.heap d (fun u => k (backV u)) its := fun v hv => by
    obtain ⟨t, rfl⟩ := e2 v hv
    have hm : V.ref t ∈ xs := by rw [e1]; exact List.mem_map.mpr ⟨_, hv, rfl⟩
    obtain ⟨t', e, ht, hn⟩ := hx _ hm
    cases e
    obtain ⟨its2, r2, p2, _⟩ := I.tuple ht
    exact ⟨⟨t, its2.toArray, rfl, p2, show IntsAre its2.toArray.toList (k (V.ref t)) from by simpa using r2.ints⟩, hn⟩
  refine SrtO.sorted_ord (lx_swo fun u => k (backV u)) hl.isList (by rw [← rv.length]; exact hz) (fun h2 h₁ a' ha kk => ?_) fun out h1 h2 => ?_
  · refine tups_sortable (s := { s with heap := h₁ }) hd (by omega) (hp.keeps fun b o e _ => (kk b o e).2) fun o e => ?_
    have e' : some o = some (seqObj "list" its.toArray 0) := e.symm.trans ha
    cases e'
    intro c
    exact absurd (Value.type.inj c) (by decide)
  · have h3 : ∀ u ∈ out, ∃ a, u = Value.ref a := fun u hu => e2 u (h2.perm.mem_iff.mp hu)
    obtain ⟨ep, he'⟩ := PyProof.Rows.sortedAll_at s.heap its out.toArray
    have hb : (out.map backV).Perm xs := by
      rw [e1]
      exact h2.perm.map _
    refine ⟨.ref _, upd H (s.heap.objs.size + 1) (.lst (out.map backV)), I.laid (t' := s.toks) (fun _ _ => PyProof.Rows.sortedAll_old) (Nat.le_succ _) ⟨?_, out, ep, vals_back h3, he'⟩, rfl, q _ _ hb ?_ (I.hok.fresh (Nat.le_succ _))⟩
    · rw [hb.length_eq]
      exact hz
    · rw [List.map_map]
      exact List.pairwise_map.mpr h1
end
theorem s_sortTk {K : PySem.W.Frag} {H : Hp} {Q : VK} {a : Addr} {xs : List V} (d : Nat) (k : V → List Int) (hd : 1 ≤ d) (hs : SqL K H a xs) (hx : ∀ x ∈ xs, ∃ t, x = V.ref t ∧ SqT K H t ((k x).map V.int) ∧ (k x).length = d)
    (q : ∀ ys p H', ys.Perm xs → (ys.map k).Pairwise (fun x y => HT.lexLt y x = false) → H p = none → Ex H H' → H' p = some (.lst ys) → Q (.ref p) H') : rSortTk K [.ref a] H Q :=
  ⟨a, xs, d, k, rfl, hd, hs, hx, fun ys p h1 h2 h3 => q ys p _ h1 h2 h3 (Ex.new h3) upd_same⟩
end Z

set_option Elab.async false
set_option linter.all false
set_option maxRecDepth 100000
set_option maxHeartbeats 2000000
namespace Z
open PySem PySem.Spec PyProof.Rows L2 PpSet
/-! {elt for target in iter if ..}: D the new set; O0 how its state begins, Ad how one is put in -/
def tSc2 (O0 : Addr → HO) (Ad : V → Addr → Hp → (Hp → Prop) → Prop) (wi : TI) (g : TG) (tt : TT) (te : TE) (vs : List Nat) : TE := fun σ H Q => wi σ H fun J H1 => ∀ D, H1 D = none → ∃ W : Nat → Nat → Hp → Prop, (∃ m, W 0 m (upd H1 D (O0 D))) ∧ ∀ i m H, W i m H →
  (J.stop i H ∧ Q (.ref D) H) ∨ (J.go i H ∧ ∃ Nx : Hp → Prop, (∀ H', Nx H' → ∃ m', m' < m ∧ W (i + 1) m' H') ∧ ∀ x H', J.yld i H x H' → g x (wipe σ vs) H' fun σ2 H2 => wipe σ2 vs = wipe σ vs ∧ tt σ2 H2 fun b H3 =>
    if b = true then te σ2 H3 fun y H4 => Ad y D H4 Nx else Nx H3)
/-- a kind of set, as it stands over the layer -/
structure SetKd (P : Program) (w : World) (K : PySem.W.Frag) (hu : Around → Prop) (O0 : Addr → HO) (Ad : V → Addr → Hp → (Hp → Prop) → Prop) : Prop where
  new : ∀ {H : Hp} {h : Heap}, ObjOk P w H (h.push { cls := .type "set", dict := none, data := .set #[] 0 (.fresh 0 0 (!w.params.followText "set-order")) }) h.objs.size (O0 h.objs.size)
  add : ∀ {X : Cx} {A : Around} {pins : List (Addr × Obj)} {σ : L2.St} {H : Hp} {s : Shared} {E : Value → Shared → Prop} {D : Addr} {y : V} {u : Value} {R : Hp → Prop} {Q : Value → Shared → Prop}, X.prog = P → X.w = w → X.K = K → hu A → Inv X pins σ H s → RelV y u → Ad y D H R →
    (∀ s' H', Inv X pins σ H' s' → R H' → Q .none s') → wpAny (model P w) A (call (.builtin "set.add") [.ref D, u]) Q E s
section
variable {X : Cx}
theorem sc2_core {hu : Around → Prop} {O0 : Addr → HO} {Ad : V → Addr → Hp → (Hp → Prop) → Prop} {pins : List (Addr × Obj)} {s : Shared} {σ : L2.St} {H : Hp} {Q : VK} {elt tg iter : Expr} {ifs : List Expr} {scope : Scope} {own : List (PySem.Str × Nat)} {pos pos' : Pos} {wi : TI} {g : TG} {tt : TT} {te : TE} {use : Option (Value → Sem Unit)} {Qf : Value → Shared → Prop}
    (S : SetKd X.prog X.w X.K hu O0 Ad) (hA : hu X.A) (hc : X.calm = true) (hN : X.N.Nodup) (I : Inv X pins σ H s) (hi : PI X tg iter wi) (ok : BlkOk X.N X.env.scope scope own)
    (hg : ∀ (s : Shared) (H : Hp) (C : Addr) (cl : List (PySem.Str × Addr)) (fp : List Addr), PG (X.blk s H scope (compEnvC scope cl C X.env) fp) tg g) (ht : ∀ (s : Shared) (H : Hp) (C : Addr) (cl : List (PySem.Str × Addr)) (fp : List Addr), PTs (X.blk s H scope (compEnvC scope cl C X.env) fp) ifs tt)
    (he : ∀ (s : Shared) (H : Hp) (C : Addr) (cl : List (PySem.Str × Addr)) (fp : List Addr), PE (X.blk s H scope (compEnvC scope cl C X.env) fp) elt te) (hs : ∀ x, foldedSetIterable iter X.env x = pure x)
    (h : tSc2 O0 Ad wi g tt te (own.map (·.2)) σ H Q)
    (hRR : ∀ D C s' m H', Inv X pins σ H' s' → Q (.ref D) H' → s'.heap.Ns C m → FpOk X pins H' C → compPost (model X.prog X.w) X.A X.xe use Qf (.ref D) C (.ok .next) s') :
    wpAny (model X.prog X.w) X.A (comprehension (.SetComp elt [⟨tg, iter, ifs, 0⟩] scope pos) scope X.env pos' (newSet (.type "set")) false (eval iter X.env) use) Qf X.xe s := by
  have hfree : ∀ y ∈ scope.names, y.2 = .free → ∃ c, X.env.cells.lookup y.1 = some c := fun y hy e => by
    rcases ok.free y hy e with k | k
    · exact I.ok.has _ (.inl k)
    · exact I.ok.has _ (.inr k)
  refine wpAny_comprehension_free (use := use) rfl hs (closure_ok hfree) ok.kind (fun y hy e => by rw [ok.uniq y hy, e])
    (thn (hi.run pins s σ H _ I h) fun xv s1 hx => thn hx fun itv s2 h2 => ?_)
  obtain ⟨it, fp, tn, J, H2, e, I2, T, st2, f2, q⟩ := h2
  subst e
  refine newSet_ok (newEnv_comp ?_)
  generalize hD : s2.heap.objs.size = D
  have hDn : H2 D = none := I2.hok.fresh (Nat.le_of_eq hD)
  obtain ⟨W, ⟨m0, w0⟩, turn⟩ := q D hDn
  generalize hs3 : ({ s2 with heap := s2.heap.push { cls := .type "set", dict := none, data := .set #[] 0 (.fresh 0 0 (!X.w.params.followText "set-order")) } } : Shared) = s3
  have I3 : Inv X pins σ (upd H2 D (O0 D)) s3 := by
    rw [← hs3]
    refine I2.laid (t' := s2.toks) (fun b o e => Heap.get?_push_of_some _ e) (Nat.le_of_eq hD) ?_
    rw [← hD]
    exact S.new
  have h3 : s3.heap = s2.heap.push { cls := .type "set", dict := none, data := .set #[] 0 (.fresh 0 0 (!X.w.params.followText "set-order")) } := by rw [← hs3]
  have sz : ∀ b ∈ fp, b < s2.heap.objs.size := fun b hb => by
    obtain ⟨o, e, _⟩ := T.obj _ _ st2 b hb
    exact Heap.lt_size e
  have f3 : ∀ b ∈ fp, FpOk X pins (upd H2 D (O0 D)) b ∧ b < s3.heap.objs.size := fun b hb => by
    have hlt := sz b hb
    refine ⟨⟨?_, (f2 b hb).2⟩, by rw [h3, Heap.size_push]; exact Nat.lt_succ_of_lt hlt⟩
    rw [upd_ne (by rw [← hD]; exact Nat.ne_of_lt hlt)]
    exact (f2 b hb).1
  have st3 : tn 0 s3.heap := T.keep _ _ _ st2 fun b _ o e => by rw [h3]; exact Heap.get?_push_of_some _ e
  have I4 := block_start I3 ok hN f3
  have pg := hg s3 (upd H2 D (O0 D)) s3.heap.objs.size (cellsFrom (s3.heap.objs.size + 1) scope.names (cloFrom X.env.cells scope.names [])) fp
  have pt := ht s3 (upd H2 D (O0 D)) s3.heap.objs.size (cellsFrom (s3.heap.objs.size + 1) scope.names (cloFrom X.env.cells scope.names [])) fp
  have pe := he s3 (upd H2 D (O0 D)) s3.heap.objs.size (cellsFrom (s3.heap.objs.size + 1) scope.names (cloFrom X.env.cells scope.names [])) fp
  show codeAny _ _ (.compStart (.SetComp elt [⟨tg, iter, ifs, 0⟩] scope pos) 0 (.ref it) (.ref D) (compEnvC scope (cellsFrom (s3.heap.objs.size + 1) scope.names (cloFrom X.env.cells scope.names [])) s3.heap.objs.size X.env)) (compPost (model X.prog X.w) X.A X.xe use Qf (.ref D) s3.heap.objs.size) { s3 with heap := pushCells (s3.heap.push { cls := .type "dict", data := .dict #[] }) scope.names }
  have nfp : ∀ b ∈ fp, (upd H2 D (O0 D)) b = none := fun b hb => (f3 b hb).1.1
  generalize hce : compEnvC scope (cellsFrom (s3.heap.objs.size + 1) scope.names (cloFrom X.env.cells scope.names [])) s3.heap.objs.size X.env = ce at I4 pg pt pe ⊢
  have cL : ce.locals = s3.heap.objs.size := by subst hce; rfl
  generalize hH3 : upd H2 D (O0 D) = H3 at I3 I4 pg pt pe w0 nfp f3
  generalize hs4 : ({ s3 with heap := pushCells (s3.heap.push { cls := .type "dict", data := .dict #[] }) scope.names } : Shared) = s4 at I4 ⊢
  have st4 : tn 0 s4.heap := T.keep _ _ _ st3 fun b _ o e => by rw [← hs4]; exact pushCells_keeps _ _ _ _ (Heap.get?_push_of_some _ e)
  have stat : ∀ {σ' : L2.St} {H' : Hp} {s' : Shared}, Inv (X.blk s3 H3 scope ce fp) [] σ' H' s' → (∀ b ∈ fp, H' b = none) → ∀ b ∈ fp, FpOk (X.blk s3 H3 scope ce fp) [] H' b := fun {σ' H' s'} I' hn b hb =>
    ⟨hn b hb, (I'.ok.exf b hb).1, I'.ok.exfs b hb, .inl hb, fun x c e => (I'.ok.exf b hb).2 x c e, fun p hp => absurd (show p ∈ ([] : List (Addr × Obj)) ++ [] from hp) (by simp)⟩
  have loop : codeAny (model X.prog X.w) X.A (.compLoop (.SetComp elt [⟨tg, iter, ifs, 0⟩] scope pos) 0 (.ref it) (.ref D) ce) (compPost (model X.prog X.w) X.A X.xe use Qf (.ref D) s3.heap.objs.size) s4 := by
    refine compLoopS_any (fun n s' => ∃ i H', Inv (X.blk s3 H3 scope ce fp) [] (wipe σ (own.map (·.2))) H' s' ∧ tn i s'.heap ∧ (∀ b ∈ fp, H' b = none) ∧ W i n H') ?_ m0 ⟨0, H3, I4, st4, nfp, w0⟩
    rintro n s5 ⟨i, H5, I5, st5, n5, w5⟩
    rcases turn i n H5 w5 with ⟨stop, qq⟩ | ⟨go, Nx, hNx, step⟩
    · have td := T.done (X.blk s3 H3 scope ce fp) rfl rfl rfl hc i [] s5 _ H5 (fun _ _ => False) I5 (stat I5 n5) st5 stop
      refine thnF td fun r s6 ⟨hr, I6⟩ => ?_
      subst hr
      have I7 : Inv X pins σ H5 s6 := I3.call' (ch := fp) I6.os I6.base I6.hok I6.bare fun b hb => ⟨(f3 b hb).1.2.2.2.1, (f3 b hb).1.2.1, (f3 b hb).1.2.2.2.2.1, (f3 b hb).1.2.2.2.2.2⟩
      have nC : H5 s3.heap.objs.size = none := by
        have z : H5 ce.locals = none := I6.free
        rw [cL] at z
        exact z
      obtain ⟨m, hn, _⟩ := I6.loc
      have hn : s6.heap.Ns ce.locals m := hn
      rw [cL] at hn
      exact hRR D s3.heap.objs.size s6 m H5 I7 qq hn (I3.fpOk (Nat.le_refl _) nC)
    · have ti := T.item (X.blk s3 H3 scope ce fp) rfl rfl rfl hc i [] s5 _ H5 (fun _ _ => False) I5 (stat I5 n5) st5 go
      refine thnF ti fun r s6 ⟨u, hr, h6⟩ => ?_
      subst hr
      refine thnF h6 fun _ s7 ⟨x, H7, I7, r7, y7, st7, n7⟩ => ?_
      have I7' := I7.pinned (stat I7 n7) (T.obj _ _ st7)
      refine thnF (pg.run _ s7 _ H7 x u _ I7' r7 (step x H7 y7)) fun _ s8 ⟨σ8, H8, I8, hw8, q8⟩ => ?_
      refine thnF (pt.run _ s8 σ8 H8 _ I8 q8) fun b s9 ⟨H9, I9, q9⟩ => ?_
      have fin : ∀ {s' : Shared} {H' : Hp}, Inv (X.blk s3 H3 scope ce fp) ([] ++ pinsAt fp s7.heap) σ8 H' s' → Nx H' → ∃ m, m < n ∧ ∃ i H', Inv (X.blk s3 H3 scope ce fp) [] (wipe σ (own.map (·.2))) H' s' ∧ tn i s'.heap ∧ (∀ b ∈ fp, H' b = none) ∧ W i m H' := fun {s' H'} I' nx => by
        obtain ⟨m', hm, w'⟩ := hNx H' nx
        have pin' : ∀ b ∈ fp, ∀ o, s7.heap.get? b = some o → s'.heap.get? b = some o ∧ H' b = none := fun b hb o e =>
          let z := I'.pin (b, o) (List.mem_append_right _ (List.mem_append_right _ (mem_pinsAt hb e)))
          ⟨z.1, z.2.1⟩
        have hl : (wipe σ (own.map (·.2))).length = σ8.length := by rw [← hw8, wipe_length]
        refine ⟨m', hm, i + 1, H', (I'.unpinned (pins := [])).weak hl (fun j v e => ?_), T.keep _ _ _ st7 fun b hb o e => (pin' b hb o e).1, fun b hb => ?_, w'⟩
        · rw [← hw8] at e
          exact (wipe_some e).1
        · obtain ⟨o, e, _⟩ := T.obj _ _ st7 b hb
          exact (pin' b hb o e).2
      cases b with
      | false =>
        simp only [Bool.false_eq_true, if_false] at q9 ⊢
        exact fin I9 q9
      | true =>
        simp only [if_true] at q9 ⊢
        refine thnF (pe.run _ s9 σ8 H9 _ I9 q9) fun z s10 ⟨yv, H10, I10, r10, ad⟩ => ?_
        exact S.add (X := X.blk s3 H3 scope ce fp) rfl rfl rfl hA I10 r10 ad fun s11 H11 I11 nx => fin I11 nx
  exact codeAny_compStart_set loop (T.self X.A 0 _ _ _ st4 loop)
/-- as a value -/
theorem pe_sc2 {hu : Around → Prop} {O0 : Addr → HO} {Ad : V → Addr → Hp → (Hp → Prop) → Prop} {elt tg iter : Expr} {ifs : List Expr} {scope : Scope} {own : List (PySem.Str × Nat)} {pos : Pos} {wi : TI} {g : TG} {tt : TT} {te : TE} (S : SetKd X.prog X.w X.K hu O0 Ad) (hA : hu X.A) (hc : X.calm = true) (hN : X.N.Nodup) (hi : PI X tg iter wi) (ok : BlkOk X.N X.env.scope scope own)
    (hg : ∀ (s : Shared) (H : Hp) (C : Addr) (cl : List (PySem.Str × Addr)) (fp : List Addr), PG (X.blk s H scope (compEnvC scope cl C X.env) fp) tg g) (ht : ∀ (s : Shared) (H : Hp) (C : Addr) (cl : List (PySem.Str × Addr)) (fp : List Addr), PTs (X.blk s H scope (compEnvC scope cl C X.env) fp) ifs tt)
    (he : ∀ (s : Shared) (H : Hp) (C : Addr) (cl : List (PySem.Str × Addr)) (fp : List Addr), PE (X.blk s H scope (compEnvC scope cl C X.env) fp) elt te) (hs : ∀ x, foldedSetIterable iter X.env x = pure x := by intro _; rfl) :
    PE X (.SetComp elt [⟨tg, iter, ifs, 0⟩] scope pos) (tSc2 O0 Ad wi g tt te (own.map (·.2))) := by
  refine ⟨fun pins s σ H Q I h => ?_⟩
  rw [eval_SetComp]
  refine sc2_core S hA hc hN I hi ok hg ht he hs h fun D C s' m H' I' q hn f => ⟨m, hn, fun h'' sb => ?_⟩
  obtain ⟨f0, f1, f2, f3, f4, f5⟩ := f
  exact ⟨.ref D, H', I'.turned (t' := s'.toks) (fun b o hb e => (sb.2 b hb).trans e) f0 f1 f3 f4 f5, rfl, q⟩
end
/-! sets of ints -/
def O0I (w : World) (D : Addr) : HO := SetO w D (fun _ => false) 0
def AdI (w : World) (y : V) (D : Addr) (H : Hp) (R : Hp → Prop) : Prop := ∃ (k : Int) (S : Int → Bool) (n : Nat), y = .int k ∧ H D = some (SetO w D S n) ∧ n + 1 < scanBound ∧ R (upd H D (SetO w D (fun j => S j || decide (j = k)) (if S k = true then n else n + 1)))
theorem kd_ints {P : Program} {w : World} {K : PySem.W.Frag} : SetKd P w K (fun _ => True) (O0I w) (AdI w) where
  new := setO_new (setR_fresh w)
  add := by
    intro X A pins σ H s E D y u R Q hP hw hK _ I ry h k
    subst hP hw
    obtain ⟨i, S, n, rfl, hD, room, hR⟩ := h
    obtain ⟨tk, rfl⟩ := ry
    have R0 := setO_get I hD
    refine setR_add R0 room fun h' sb new => ?_
    have he : ∃ u, h'.get? D = some u := by
      have ⟨o, _, _, _, ho, _⟩ := new
      exact ⟨o, ho⟩
    exact k _ _ (I.write (e := D) (t' := s.toks + 1) (by rw [hD]; trivial) (.inl rfl) (fun b u hb hu => (sb.2 b hb).trans hu) he (setO_new new)) hR
/-! sets of tuples of ints -/
def O0T (P : Program) (w : World) (D : Addr) : HO := SetTO P w D []
def AdT (K : PySem.W.Frag) (P : Program) (w : World) (y : V) (D : Addr) (H : Hp) (R : Hp → Prop) : Prop := ∃ (t : Addr) (k : List Int) (L : List (Addr × List Int)), y = .ref t ∧ SqT K H t (k.map V.int) ∧ H D = some (SetTO P w D L) ∧ (∀ p ∈ L, SqT K H p.1 (p.2.map V.int)) ∧ L.length + 1 < 64 ∧
  ∀ L', (k ∈ L.map (·.2) → L' = L) → (k ∉ L.map (·.2) → L'.Perm ((t, k) :: L)) → R (upd H D (SetTO P w D L'))
theorem kd_tups {P : Program} {w : World} {K : PySem.W.Frag} : SetKd P w K (fun A => A.units + 3 < cLine) (O0T P w) (AdT K P w) where
  new := setTO_new (SetTR.t0 (setTR_fresh (Heap.get?_push_size _ rfl)))
  add := by
    intro X A pins σ H s E D y u R Q hP hw hK hA I ry h kk
    subst hP hw hK
    obtain ⟨t, k, L, rfl, ht, hD, hL, few, hR⟩ := h
    obtain rfl : u = Value.ref t := ry
    have R0 : SetT0 X.prog X.w s.heap D L := (I.hok D _ hD).1
    obtain ⟨es, ep, tb, R1⟩ := R0.full fun p hp => I.isT (hL p hp)
    have hx : IsT X.prog X.w s.heap k t := I.isT ht
    obtain ⟨o, ho, hex, hd⟩ := R1.ob
    have hu1 : A.in1.units < cLine := by
      have : A.in1.units ≤ A.units + 1 := by simp [Around.in1]
      omega
    refine wpAny_call_entry F.slot_set_add ⟨o, ho, hex.1⟩ F.entry_set_add ?_ (F.args_set_add_2 _ _)
    unfold Builtin.«set.add» Builtin.Frozenset.oneOther
    simp only [List.isEmpty_nil, bind_assoc]
    unfold Builtin.Frozenset.addrOf setAdd
    refine wpAny_bind (wpAny_pure ?_)
    try dsimp only
    refine wpAny_bind (wpAny_pure ?_)
    try dsimp only
    refine wpAny_bind ?_
    refine wpAny_holding ?_
    refine wpAny_bind (wpAny_pyHash_tuple hu1 hx ?_)
    refine add_at (s := { s with toks := s.toks + (k.length + 1) }) (R1.keep (fun o e => e) fun p hp => R1.tup p hp) hx hu1 few fun b h' L' es' ep' t' hsb hS2 c1 c2 => ?_
    show wpAny _ _ (ret Value.none) _ _ _
    have he : ∃ u, h'.get? D = some u := by
      obtain ⟨o', ho', _⟩ := hS2.ob
      exact ⟨o', ho'⟩
    refine wpAny_pure ⟨_, rfl, kk _ _ (I.write (e := D) (t' := s.toks + (k.length + 1)) (by rw [hD]; trivial) (.inl rfl) (fun b u hb hu => (hsb.2 b hb).trans hu) he (setTO_new hS2.t0)) (hR L' c1 c2)⟩
end Z

set_option Elab.async false
set_option linter.all false
set_option maxRecDepth 100000
set_option maxHeartbeats 1000000
namespace Z
open PySem L2
/-! dicts by steps, comprehensions of dicts and sets -/
section
variable {K : PySem.W.Frag} {σ : L2.St} {H : Hp} {Q : VK} {nx bk ct : L2.St → Hp → Prop} {rt : VK}
theorem s_dnew (k : ∀ p H', H p = none → Ex H H' → H' p = some (.dK []) → Q (.ref p) H') : tDNewK σ H Q := fun p hp => k p _ hp (Ex.new hp) upd_same
def DGetR (x y : V) (H : Hp) (Q : VK) : Prop := ∃ a v, x = .ref a ∧ DGet H a y (some v) ∧ Q v H
theorem s_tDGet {td ty : TE} (k : td σ H fun x H1 => ty σ H1 fun y H2 => DGetR x y H2 Q) : tDGet td ty σ H Q := k
theorem s_dgetI {a : Addr} {n : Int} {kvs : List (Key × V)} {v : V} (h : H a = some (.dK kvs)) (e : valV kvs (Sum.inl n) = some v) (k : Q v H) : DGetR (.ref a) (.int n) H Q := ⟨a, v, rfl, by rw [← e]; exact DGet.k (k := Sum.inl n) h, k⟩
def DInR (y x : V) (H : Hp) (Q : VK) : Prop := ∃ a o, x = .ref a ∧ DGet H a y o ∧ Q (.bl o.isSome) H
theorem s_tDIn {td ty : TE} (k : ty σ H fun y H1 => td σ H1 fun x H2 => DInR y x H2 Q) : tDIn ty td σ H Q := k
theorem s_dinI {a : Addr} {n : Int} {kvs : List (Key × V)} (h : H a = some (.dK kvs)) (k : Q (.bl (valV kvs (Sum.inl n)).isSome) H) : DInR (.int n) (.ref a) H Q := ⟨a, _, rfl, DGet.k (k := Sum.inl n) h, k⟩
def DNotInR (y x : V) (H : Hp) (Q : VK) : Prop := ∃ a o, x = .ref a ∧ DGet H a y o ∧ Q (.bl (!o.isSome)) H
theorem s_tDNotIn {td ty : TE} (k : ty σ H fun y H1 => td σ H1 fun x H2 => DNotInR y x H2 Q) : tDNotIn ty td σ H Q := k
theorem s_dnotinI {a : Addr} {n : Int} {kvs : List (Key × V)} (h : H a = some (.dK kvs)) (k : Q (.bl (!(valV kvs (Sum.inl n)).isSome)) H) : DNotInR (.int n) (.ref a) H Q := ⟨a, _, rfl, DGet.k (k := Sum.inl n) h, k⟩
def DPutR (x y v : V) (H : Hp) (R : Hp → Prop) : Prop := ∃ a H4, x = .ref a ∧ DPut H a y v H4 ∧ R H4
theorem s_tDPut {td ty tv : TE} (k : tv σ H fun v H1 => td σ H1 fun x H2 => ty σ H2 fun y H3 => DPutR x y v H3 fun H4 => nx σ H4) : sDPut td ty tv ⟨nx, rt, bk, ct⟩ σ H := k
theorem s_dputI {a : Addr} {n : Int} {v : V} {kvs : List (Key × V)} {R : Hp → Prop} (h : H a = some (.dK kvs)) (z : kvs.length < 100000) (k : ∀ H', Fr a H H' → H' a = some (.dK (putK kvs (Sum.inl n) v)) → R H') : DPutR (.ref a) (.int n) v H R :=
  ⟨a, _, rfl, DPut.k (k := Sum.inl n) h (szl (by omega)), k _ Fr.upd upd_same⟩
def DGet2R (x : V) (a : Addr) (y z : V) (H : Hp) (Q : VK) : Prop := ∃ o, DGet H a y o ∧ Q (o.getD z) H
theorem s_tDGet2 {td ty tx : TE} (k : td σ H fun x H1 => ∃ a, x = .ref a ∧ IsD H1 a ∧ ty σ H1 fun y H2 => tx σ H2 fun z H3 => DGet2R x a y z H3 Q) : tDGet2 td ty tx σ H Q := k
theorem s_isD {a : Addr} {kvs : List (Key × V)} {R : Addr → Prop} (h : H a = some (.dK kvs)) (k : R a) : ∃ a', V.ref a = .ref a' ∧ IsD H a' ∧ R a' := ⟨a, rfl, .inl ⟨kvs, .inl h⟩, k⟩
theorem s_dget2I {x : V} {a : Addr} {n : Int} {z : V} {kvs : List (Key × V)} (h : H a = some (.dK kvs)) (k : Q ((valV kvs (Sum.inl n)).getD z) H) : DGet2R x a (.int n) z H Q := ⟨_, DGet.k (k := Sum.inl n) h, k⟩
theorem s_tDGet1 {td ty : TE} (k : td σ H fun x H1 => ∃ a, x = .ref a ∧ IsD H1 a ∧ ty σ H1 fun y H2 => DGet2R x a y .non H2 Q) : tDGet1 td ty σ H Q := k
/-! {k: v for ..} -/
def DcPut (D : Addr) (y z : V) (H : Hp) (R : Hp → Prop) : Prop := ∃ kvs k, y = kV k ∧ H D = some (.dK kvs) ∧ kvs.length < sizeLine ∧ R (upd H D (.dK (putK kvs k z)))
theorem s_dcPut {D : Addr} {n : Int} {z : V} {kvs : List (Key × V)} {R : Hp → Prop} (h : H D = some (.dK kvs)) (hz : kvs.length < 100000) (k : ∀ H', Fr D H H' → H' D = some (.dK (putK kvs (Sum.inl n) z)) → R H') : DcPut D (.int n) z H R :=
  ⟨kvs, Sum.inl n, rfl, h, szl (by omega), k _ Fr.upd upd_same⟩
def DcW (J : It) (g : TG) (tt : TT) (tk tv : TE) (vs : List Nat) (σ : L2.St) (H1 : Hp) (Q : VK) : Prop := ∀ D, H1 D = none → ∃ W : Nat → Nat → Hp → Prop, (∃ m, W 0 m (upd H1 D (.dK []))) ∧ ∀ i m H, W i m H →
  (J.stop i H ∧ Q (.ref D) H) ∨ (J.go i H ∧ ∃ Nx : Hp → Prop, (∀ H', Nx H' → ∃ m', m' < m ∧ W (i + 1) m' H') ∧ ∀ x H', J.yld i H x H' → g x (wipe σ vs) H' fun σ2 H2 => wipe σ2 vs = wipe σ vs ∧ tt σ2 H2 fun b H3 =>
    if b = true then tk σ2 H3 fun y H4 => tv σ2 H4 fun z H5 => DcPut D y z H5 Nx else Nx H3)
theorem s_dc {wi : TI} {g : TG} {tt : TT} {tk tv : TE} {vs : List Nat} (k : wi σ H fun J H1 => DcW J g tt tk tv vs σ H1 Q) : tDc wi g tt tk tv vs σ H Q := k
theorem dc_it {J : It} {n : Nat} {G : Hp → Prop} {Y : Nat → Hp → V → Hp → Prop} {g : TG} {tt : TT} {tk tv : TE} {vs : List Nat} (w : Walk J n G Y) (Pv : Addr → Nat → Hp → Prop)
    (h0 : ∀ D H', H D = none → Ex H H' → H' D = some (.dK []) → Pv D 0 H') (hG : ∀ D i H', Pv D i H' → G H')
    (hs : ∀ D i x H1 H1', i < n → Pv D i H1 → Y i H1 x H1' → g x (wipe σ vs) H1' fun σ2 H2 => wipe σ2 vs = wipe σ vs ∧ tt σ2 H2 fun b H3 =>
      if b = true then tk σ2 H3 fun y H4 => tv σ2 H4 fun z H5 => DcPut D y z H5 (Pv D (i + 1)) else Pv D (i + 1) H3)
    (hd : ∀ D H', Pv D n H' → Q (.ref D) H') : DcW J g tt tk tv vs σ H Q := by
  intro D hD
  refine ⟨fun i m H => m = n - i ∧ i ≤ n ∧ Pv D i H, ⟨n, by simp, Nat.zero_le _, h0 D _ hD (Ex.new hD) upd_same⟩, ?_⟩
  rintro i m H ⟨rfl, hi, p⟩
  have q := hG D i H p
  by_cases hlt : i < n
  · refine .inr ⟨w.goes i H hlt q, Pv D (i + 1), fun H' p' => ⟨n - (i + 1), by omega, rfl, hlt, p'⟩, fun x H' y => ?_⟩
    exact hs D i x H H' hlt p (w.yields i H x H' hlt q y)
  · have e : i = n := by omega
    subst e
    exact .inl ⟨w.stops H q, hd D H p⟩
theorem dc_list {a : Addr} {g : TG} {tt : TT} {tk tv : TE} {vs : List Nat} (xs : List V) (h : SqL K H a xs) (Pv : Addr → Nat → Hp → Prop)
    (h0 : ∀ D H', H D = none → Ex H H' → H' D = some (.dK []) → Pv D 0 H') (hG : ∀ D i H', Pv D i H' → SqL K H' a xs)
    (hs : ∀ D i x H1, xs[i]? = some x → Pv D i H1 → g x (wipe σ vs) H1 fun σ2 H2 => wipe σ2 vs = wipe σ vs ∧ tt σ2 H2 fun b H3 =>
      if b = true then tk σ2 H3 fun y H4 => tv σ2 H4 fun z H5 => DcPut D y z H5 (Pv D (i + 1)) else Pv D (i + 1) H3)
    (hd : ∀ D H', Pv D xs.length H' → Q (.ref D) H') : ∃ a', V.ref a = .ref a' ∧ (∃ xs, SqL K H a' xs) ∧ DcW (Itl K a') g tt tk tv vs σ H Q :=
  ⟨a, rfl, ⟨xs, h⟩, dc_it walk_list Pv h0 hG (fun D i x H1 H1' hi p y => by
    obtain ⟨e, y⟩ := y
    subst e
    exact hs D i x _ y p) hd⟩
/-! {x for ..} -/
def ScW (O0 : Addr → HO) (Ad : V → Addr → Hp → (Hp → Prop) → Prop) (J : It) (g : TG) (tt : TT) (te : TE) (vs : List Nat) (σ : L2.St) (H1 : Hp) (Q : VK) : Prop := ∀ D, H1 D = none → ∃ W : Nat → Nat → Hp → Prop, (∃ m, W 0 m (upd H1 D (O0 D))) ∧ ∀ i m H, W i m H →
  (J.stop i H ∧ Q (.ref D) H) ∨ (J.go i H ∧ ∃ Nx : Hp → Prop, (∀ H', Nx H' → ∃ m', m' < m ∧ W (i + 1) m' H') ∧ ∀ x H', J.yld i H x H' → g x (wipe σ vs) H' fun σ2 H2 => wipe σ2 vs = wipe σ vs ∧ tt σ2 H2 fun b H3 =>
    if b = true then te σ2 H3 fun y H4 => Ad y D H4 Nx else Nx H3)
theorem s_sc {O0 : Addr → HO} {Ad : V → Addr → Hp → (Hp → Prop) → Prop} {wi : TI} {g : TG} {tt : TT} {te : TE} {vs : List Nat} (k : wi σ H fun J H1 => ScW O0 Ad J g tt te vs σ H1 Q) : tSc2 O0 Ad wi g tt te vs σ H Q := k
theorem sc_it {O0 : Addr → HO} {Ad : V → Addr → Hp → (Hp → Prop) → Prop} {J : It} {n : Nat} {G : Hp → Prop} {Y : Nat → Hp → V → Hp → Prop} {g : TG} {tt : TT} {te : TE} {vs : List Nat} (w : Walk J n G Y) (Pv : Addr → Nat → Hp → Prop)
    (h0 : ∀ D H', H D = none → Ex H H' → H' D = some (O0 D) → Pv D 0 H') (hG : ∀ D i H', Pv D i H' → G H')
    (hs : ∀ D i x H1 H1', i < n → Pv D i H1 → Y i H1 x H1' → g x (wipe σ vs) H1' fun σ2 H2 => wipe σ2 vs = wipe σ vs ∧ tt σ2 H2 fun b H3 =>
      if b = true then te σ2 H3 fun y H4 => Ad y D H4 (Pv D (i + 1)) else Pv D (i + 1) H3)
    (hd : ∀ D H', Pv D n H' → Q (.ref D) H') : ScW O0 Ad J g tt te vs σ H Q := by
  intro D hD
  refine ⟨fun i m H => m = n - i ∧ i ≤ n ∧ Pv D i H, ⟨n, by simp, Nat.zero_le _, h0 D _ hD (Ex.new hD) upd_same⟩, ?_⟩
  rintro i m H ⟨rfl, hi, p⟩
  have q := hG D i H p
  by_cases hlt : i < n
  · refine .inr ⟨w.goes i H hlt q, Pv D (i + 1), fun H' p' => ⟨n - (i + 1), by omega, rfl, hlt, p'⟩, fun x H' y => ?_⟩
    exact hs D i x H H' hlt p (w.yields i H x H' hlt q y)
  · have e : i = n := by omega
    subst e
    exact .inl ⟨w.stops H q, hd D H p⟩
theorem sc_list {O0 : Addr → HO} {Ad : V → Addr → Hp → (Hp → Prop) → Prop} {a : Addr} {g : TG} {tt : TT} {te : TE} {vs : List Nat} (xs : List V) (h : SqL K H a xs) (Pv : Addr → Nat → Hp → Prop)
    (h0 : ∀ D H', H D = none → Ex H H' → H' D = some (O0 D) → Pv D 0 H') (hG : ∀ D i H', Pv D i H' → SqL K H' a xs)
    (hs : ∀ D i x H1, xs[i]? = some x → Pv D i H1 → g x (wipe σ vs) H1 fun σ2 H2 => wipe σ2 vs = wipe σ vs ∧ tt σ2 H2 fun b H3 =>
      if b = true then te σ2 H3 fun y H4 => Ad y D H4 (Pv D (i + 1)) else Pv D (i + 1) H3)
    (hd : ∀ D H', Pv D xs.length H' → Q (.ref D) H') : ∃ a', V.ref a = .ref a' ∧ (∃ xs, SqL K H a' xs) ∧ ScW O0 Ad (Itl K a') g tt te vs σ H Q :=
  ⟨a, rfl, ⟨xs, h⟩, sc_it walk_list Pv h0 hG (fun D i x H1 H1' hi p y => by
    obtain ⟨e, y⟩ := y
    subst e
    exact hs D i x _ y p) hd⟩
theorem s_adI {w : World} {D : Addr} {n : Int} {S : Int → Bool} {m : Nat} {R : Hp → Prop} (h : H D = some (SetO w D S m)) (room : m + 1 < scanBound) (k : ∀ H', Fr D H H' → H' D = some (SetO w D (fun j => S j || decide (j = n)) (if S n = true then m else m + 1)) → R H') : AdI w (.int n) D H R :=
  ⟨n, S, m, rfl, h, room, k _ Fr.upd upd_same⟩
theorem s_adT {P : Program} {w : World} {D t : Addr} {ks : List Int} {L : List (Addr × List Int)} {R : Hp → Prop} (ht : SqT K H t (ks.map V.int)) (h : H D = some (SetTO P w D L)) (hL : ∀ p ∈ L, SqT K H p.1 (p.2.map V.int)) (few : L.length + 1 < 64)
    (k : ∀ L' H', (ks ∈ L.map (·.2) → L' = L) → (ks ∉ L.map (·.2) → L'.Perm ((t, ks) :: L)) → Fr D H H' → H' D = some (SetTO P w D L') → R H') : AdT K P w (.ref t) D H R :=
  ⟨t, ks, L, rfl, ht, h, hL, few, fun L' h1 h2 => k L' _ h1 h2 Fr.upd upd_same⟩
/-- x in xs, a list of data -/
theorem s_inD {x : V} {a : Addr} (d : PyData) (ds : List PyData) (hx : Dp K H x d) (ha : Dp K H (.ref a) (.list ds)) (h1 : SeqAt.shaped d = true) (h2 : SeqAt.shaped (.list ds) = true) (k : Q (.bl (ds.any fun z => PyData.eqv z d)) H) : rInD K x (.ref a) H Q := ⟨d, ds, hx, ha, h1, h2, k⟩
end
/-! tuples stay where lists, dicts and others change -/
def Tk (K : PySem.W.Frag) (H H' : Hp) : Prop := ∀ (a : Addr) (xs : List V), SqT K H a xs → SqT K H' a xs
theorem Ex.tk {K : PySem.W.Frag} {H H' : Hp} (e : Ex H H') : Tk K H H' := fun _ _ h => e.sqT h
theorem Tk.refl {K : PySem.W.Frag} {H : Hp} : Tk K H H := fun _ _ h => h
theorem Tk.trans {K : PySem.W.Frag} {H H1 H2 : Hp} (a : Tk K H H1) (b : Tk K H1 H2) : Tk K H H2 := fun _ _ h => b _ _ (a _ _ h)
theorem tk_fr {K : PySem.W.Frag} {b : Addr} {o : HO} {H H' : Hp} (e : Fr b H H') (hb : H b = some o) (n1 : ∀ xs, o ≠ .tup xs) (n2 : ∀ q u, o ≠ .frz q u) : Tk K H H' := fun a xs h => by
  have ne : ∀ {u}, H a = some u → u ≠ o → a ≠ b := fun h1 h2 z => by
    subst z
    rw [h1] at hb
    exact h2 (Option.some.inj hb)
  rcases h with (h | ⟨q, h⟩) | h
  · exact .inl (.inl (e _ _ (ne h (fun z => n1 _ z.symm)) h))
  · exact .inl (.inr ⟨q, e _ _ (ne h (fun z => n2 _ _ z.symm)) h⟩)
  · exact .inr h
theorem tk_lst {K : PySem.W.Frag} {b : Addr} {ys : List V} {H H' : Hp} (e : Fr b H H') (hb : H b = some (.lst ys)) : Tk K H H' := tk_fr e hb (fun _ z => by cases z) (fun _ _ z => by cases z)
theorem tk_dK {K : PySem.W.Frag} {b : Addr} {kvs : List (Key × V)} {H H' : Hp} (e : Fr b H H') (hb : H b = some (.dK kvs)) : Tk K H H' := tk_fr e hb (fun _ z => by cases z) (fun _ _ z => by cases z)
theorem tk_ins {K : PySem.W.Frag} {b C dx : Addr} {fs : List (Str × V)} {H H' : Hp} (e : Fr b H H') (hb : H b = some (.ins C dx fs)) : Tk K H H' := tk_fr e hb (fun _ z => by cases z) (fun _ _ z => by cases z)
theorem tk_set {K : PySem.W.Frag} {w : World} {b : Addr} {S : Int → Bool} {m : Nat} {H H' : Hp} (e : Fr b H H') (hb : H b = some (SetO w b S m)) : Tk K H H' :=
  tk_fr e hb (fun _ z => by have z' : HO.ext _ = HO.tup _ := z; cases z') (fun _ _ z => by have z' : HO.ext _ = HO.frz _ _ := z; cases z')
theorem tk_setT {K : PySem.W.Frag} {P : Program} {w : World} {b : Addr} {L : List (Addr × List Int)} {H H' : Hp} (e : Fr b H H') (hb : H b = some (SetTO P w b L)) : Tk K H H' :=
  tk_fr e hb (fun _ z => by have z' : HO.ext _ = HO.tup _ := z; cases z') (fun _ _ z => by have z' : HO.ext _ = HO.frz _ _ := z; cases z')
/-! each of one list is of the other's -/
inductive All2 {α β : Type} (R : α → β → Prop) : List α → List β → Prop
  | nil : All2 R [] []
  | cons {a : α} {b : β} {as : List α} {bs : List β} : R a b → All2 R as bs → All2 R (a :: as) (b :: bs)
namespace All2
variable {α β : Type} {R R' : α → β → Prop}
theorem mono (f : ∀ a b, R a b → R' a b) : ∀ {as : List α} {bs : List β}, All2 R as bs → All2 R' as bs
  | _, _, .nil => .nil
  | _, _, .cons h r => .cons (f _ _ h) (r.mono f)
theorem len : ∀ {as : List α} {bs : List β}, All2 R as bs → as.length = bs.length
  | _, _, .nil => rfl
  | _, _, .cons _ r => congrArg Nat.succ r.len
theorem app : ∀ {as as' : List α} {bs bs' : List β}, All2 R as bs → All2 R as' bs' → All2 R (as ++ as') (bs ++ bs')
  | _, _, _, _, .nil, r => r
  | _, _, _, _, .cons h r, r' => .cons h (r.app r')
theorem snoc {as : List α} {bs : List β} {a : α} {b : β} (h : All2 R as bs) (h1 : R a b) : All2 R (as ++ [a]) (bs ++ [b]) := h.app (.cons h1 .nil)
theorem get : ∀ {as : List α} {bs : List β} {i : Nat} {a : α}, All2 R as bs → as[i]? = some a → ∃ b, bs[i]? = some b ∧ R a b
  | _, _, 0, _, .cons h _, e => by
    cases e
    exact ⟨_, rfl, h⟩
  | _, _, i + 1, _, .cons _ r, e => r.get (i := i) (by simpa using e)
theorem get' : ∀ {as : List α} {bs : List β} {i : Nat} {b : β}, All2 R as bs → bs[i]? = some b → ∃ a, as[i]? = some a ∧ R a b
  | _, _, 0, _, .cons h _, e => by
    cases e
    exact ⟨_, rfl, h⟩
  | _, _, i + 1, _, .cons _ r, e => r.get' (i := i) (by simpa using e)
theorem map_r {γ : Type} {S : α → γ → Prop} (f : β → γ) (g : ∀ a b, R a b → S a (f b)) : ∀ {as : List α} {bs : List β}, All2 R as bs → All2 S as (bs.map f)
  | _, _, .nil => .nil
  | _, _, .cons h r => .cons (g _ _ h) (r.map_r f g)
theorem mem_l : ∀ {as : List α} {bs : List β} {a : α}, All2 R as bs → a ∈ as → ∃ b, b ∈ bs ∧ R a b
  | _, _, _, .cons h r, m => by
    rcases List.mem_cons.mp m with rfl | m
    · exact ⟨_, List.mem_cons_self, h⟩
    · obtain ⟨b, m, q⟩ := r.mem_l m
      exact ⟨b, List.mem_cons_of_mem _ m, q⟩
end All2
theorem all2_dp {K : PySem.W.Frag} {H : Hp} {α : Type} {R : V → α → Prop} (f : α → PyData) (g : ∀ v a, R v a → Dp K H v (f a)) : ∀ {vs : List V} {as : List α}, All2 R vs as → DpAll K H vs (as.map f)
  | _, _, .nil => .nil
  | _, _, .cons h r => .cons (g _ _ h) (all2_dp f g r)
end Z

set_option Elab.async false
set_option linter.all false
set_option maxRecDepth 100000
set_option maxHeartbeats 1000000
namespace Z
open PySem L2 PyProof.Rows
/-! sorted of tuples of ints, what each is told beside it -/
theorem map_int_inj : ∀ {a b : List Int}, a.map V.int = b.map V.int → a = b
  | [], [], _ => rfl
  | [], _ :: _, h => by cases h
  | _ :: _, [], h => by cases h
  | x :: a, y :: b, h => by
    rw [List.map_cons, List.map_cons] at h
    injection h with h1 h2
    injection h1 with h1
    rw [h1, map_int_inj h2]
def TIs (K : PySem.W.Frag) (H : Hp) (x : V) (k : List Int) : Prop := ∃ t, x = .ref t ∧ SqT K H t (k.map V.int)
theorem TIs.tk {K : PySem.W.Frag} {H H' : Hp} (e : Tk K H H') {x : V} {k : List Int} (h : TIs K H x k) : TIs K H' x k := by
  obtain ⟨t, rfl, h⟩ := h
  exact ⟨t, rfl, e _ _ h⟩
theorem tis_all {K : PySem.W.Frag} {H H' : Hp} (e : Tk K H H') {xs : List V} {ks : List (List Int)} (h : All2 (TIs K H) xs ks) : All2 (TIs K H') xs ks := h.mono fun _ _ q => q.tk e
def rSortTa (K : PySem.W.Frag) : List V → Hp → VK → Prop := fun vs H Q => ∃ (a : Addr) (xs : List V) (ks : List (List Int)) (d : Nat), vs = [V.ref a] ∧ 1 ≤ d ∧ SqL K H a xs ∧ All2 (TIs K H) xs ks ∧ (∀ k ∈ ks, k.length = d) ∧
  ∀ ys ls p, ls.Perm ks → ls.Pairwise (fun x y => HT.lexLt y x = false) → ys.Perm xs → All2 (TIs K H) ys ls → H p = none → Q (.ref p) (upd H p (.lst ys))
section
variable {X : Cx}
theorem cr_sortTa : CallR X (.builtin "sorted") (rSortTa X.K) := by
  intro pins s σ H vs us Q I r h
  obtain ⟨a, xs, ks, d, rfl, hd, hs, hx, hk, q⟩ := h
  have uniq : ∀ {x : V} {k l : List Int}, TIs X.K H x k → TIs X.K H x l → k = l := fun {x k l} h1 h2 => by
    obtain ⟨t, rfl, h1⟩ := h1
    obtain ⟨t', e, h2⟩ := h2
    cases e
    exact map_int_inj (I.tuple_inj h1 h2)
  let f : V → List Int := fun x => Classical.epsilon fun l => TIs X.K H x l
  have ff : ∀ {x k}, TIs X.K H x k → f x = k := fun {x k} h => uniq (Classical.epsilon_spec (p := fun l => TIs X.K H x l) ⟨k, h⟩) h
  have fm : ∀ {zs : List V} {ls : List (List Int)}, All2 (TIs X.K H) zs ls → zs.map f = ls := fun {zs ls} h => by
    induction h with
    | nil => rfl
    | cons h _ ih => rw [List.map_cons, ih, ff h]
  have e0 := fm hx
  refine cr_sortTk pins s σ H _ us Q I r ⟨a, xs, d, f, rfl, hd, hs, fun x m => ?_, fun ys p h1 h2 h3 => ?_⟩
  · obtain ⟨k, mk, hxk⟩ := hx.mem_l m
    obtain ⟨t, e, ht⟩ := id hxk
    rw [ff hxk]
    exact ⟨t, e, ht, hk k mk⟩
  · refine q ys (ys.map f) p (by rw [← e0]; exact h1.map f) h2 h1 ?_ h3
    have mem : ∀ y ∈ ys, TIs X.K H y (f y) := fun y m => by
      obtain ⟨k, _, hxk⟩ := hx.mem_l (h1.mem_iff.mp m)
      rw [ff hxk]
      exact hxk
    clear h1 h2 h3
    induction ys with
    | nil => exact .nil
    | cons y ys ih => exact .cons (mem y List.mem_cons_self) (ih fun z m => mem z (List.mem_cons_of_mem _ m))
end
theorem s_sortTa {K : PySem.W.Frag} {H : Hp} {Q : VK} {a : Addr} {xs : List V} {ks : List (List Int)} (d : Nat) (hd : 1 ≤ d) (hs : SqL K H a xs) (hx : All2 (TIs K H) xs ks) (hk : ∀ k ∈ ks, k.length = d)
    (q : ∀ ys ls p H', ls.Perm ks → ls.Pairwise (fun x y => HT.lexLt y x = false) → All2 (TIs K H') ys ls → H p = none → Ex H H' → H' p = some (.lst ys) → Q (.ref p) H') : rSortTa K [.ref a] H Q :=
  ⟨a, xs, ks, d, rfl, hd, hs, hx, hk, fun ys ls p h1 h2 _ h4 h3 => q ys ls p _ h1 h2 (tis_all (Ex.new h3).tk h4) h3 (Ex.new h3) upd_same⟩
/-! a written dict -/
theorem s_kix {K : PySem.W.Frag} {w : World} {p : Addr} {z : Str} {v : V} {H : Hp} {Q : VK} (h : KDct K w p z v) (k : Q v H) : rIxD K w (.ref p) (.str z) H Q := ⟨p, z, v, rfl, rfl, h, k⟩
/-- all that stood stands, but what has changed was not there -/
theorem Ex.fr2 {b : Addr} {H H1 H2 : Hp} (e : Ex H H1) (n : H b = none) (f : Fr b H1 H2) : Ex H H2 := fun a o h => f a o (ne_of_none h n) (e a o h)
end Z

set_option Elab.async false
set_option linter.all false
set_option maxRecDepth 100000
set_option maxHeartbeats 1000000
namespace Z
open PySem L2
/-! fields and methods of own instances by steps -/
theorem u65 {k : Nat} {A : Around} (hr : Room k A) : A.units + 65 < cLine := by have := hr.un; omega
theorem u3 {k : Nat} {A : Around} (hr : Room k A) : A.units + 3 < cLine := by have := hr.un; omega

section
variable {K : PySem.W.Frag} {σ : L2.St} {H : Hp} {Q : VK} {nx bk ct : L2.St → Hp → Prop} {rt : VK} {f m : Str} {C a dx : Addr} {fs : List (Str × V)}
theorem s_fldGet {v : V} (h : H a = some (.ins C dx fs)) (c : Cls K C) (na : NoAttr K C f) (e : fs.lookup f = some v) (k : Q v H) : FldR K f (.ref a) H Q := ⟨a, C, dx, fs, v, rfl, h, c, na, e, k⟩
def FldPut (K : PySem.W.Frag) (f : Str) (y x : V) (H : Hp) (R : Hp → Prop) : Prop := ∃ a C dx fs, x = .ref a ∧ H a = some (.ins C dx fs) ∧ Cls K C ∧ NoAttr K C f ∧ fs.length < 1000 ∧ R (upd H a (.ins C dx (putF f y fs)))
theorem s_sFldP {ta tv : TE} (k : tv σ H fun y H1 => ta σ H1 fun x H2 => FldPut K f y x H2 fun H3 => nx σ H3) : sFld K ta tv f ⟨nx, rt, bk, ct⟩ σ H := k
theorem s_fldPut {y : V} {R : Hp → Prop} (gs : List (Str × V)) (h : H a = some (.ins C dx fs)) (c : Cls K C) (na : NoAttr K C f) (z : fs.length < 1000) (e : putF f y fs = gs) (k : ∀ H', Fr a H H' → H' a = some (.ins C dx gs) → R H') : FldPut K f y (.ref a) H R :=
  ⟨a, C, dx, fs, rfl, h, c, na, z, by rw [e]; exact k _ Fr.upd upd_same⟩
theorem s_on {R : Prop} (h : H a = some (.ins C dx fs)) (hm : fs.lookup m = none) (k : R) : ∃ a' dx' fs', V.ref a = .ref a' ∧ H a' = some (.ins C dx' fs') ∧ fs'.lookup m = none ∧ R := ⟨a, dx, fs, rfl, h, hm, k⟩
theorem s_methA {sp : Sp} {dvs : List V} {E : XK} {ta : TE} {t : TA} (k : ta σ H fun x H1 => ∃ a dx fs, x = .ref a ∧ H1 a = some (.ins C dx fs) ∧ fs.lookup m = none ∧ t σ H1 fun vs H2 => sp (x :: (vs ++ dvs)) H2 Q E) : tMeth C m sp dvs E ta t σ H Q := k
end
/-- a new instance: what stood stands -/
theorem ex_made {C x dx : Addr} {H : Hp} (hx : H x = none) (hd : H dx = none) : Ex H (upd (upd H dx (.own x)) x (.ins C dx [])) := fun a o h => by
  have h1 : a ≠ x := ne_of_none h hx
  have h2 : a ≠ dx := ne_of_none h hd
  rw [upd_ne h1, upd_ne h2]
  exact h
end Z

set_option Elab.async false
set_option linter.all false
set_option maxRecDepth 100000
set_option maxHeartbeats 1000000
namespace Z
open PySem PySem.Spec PyProof.Rows L2
section
variable {X : Cx}
/-- name = {k: v for ..} on one line, the name a local -/
theorem ps_setDc {i : Nat} {y : Str} {py : Pos} {kx vx tg iter : Expr} {ifs : List Expr} {scope : Scope} {own : List (Str × Nat)} {pos spos : Pos} {wi : TI} {g : TG} {tt : TT} {tk tv : TE} (hc : X.calm = true) (hN : X.N.Nodup) (hy : X.N[i]? = some y) (hyl : X.env.scope.names.lookup y = some .local)
    (hsw : swapsWith (.DictComp kx vx [⟨tg, iter, ifs, 0⟩] scope pos) (some (.Name y py)) spos.line X.env = pure true) (hi : PI X tg iter wi) (ok : BlkOk X.N X.env.scope scope own)
    (hg : ∀ (s : Shared) (H : Hp) (C : Addr) (cl : List (Str × Addr)) (fp : List Addr), PG (X.blk s H scope (compEnvC scope cl C X.env) fp) tg g) (ht : ∀ (s : Shared) (H : Hp) (C : Addr) (cl : List (Str × Addr)) (fp : List Addr), PTs (X.blk s H scope (compEnvC scope cl C X.env) fp) ifs tt)
    (hk : ∀ (s : Shared) (H : Hp) (C : Addr) (cl : List (Str × Addr)) (fp : List Addr), PE (X.blk s H scope (compEnvC scope cl C X.env) fp) kx tk)
    (he : ∀ (s : Shared) (H : Hp) (C : Addr) (cl : List (Str × Addr)) (fp : List Addr), PE (X.blk s H scope (compEnvC scope cl C X.env) fp) vx tv) (hs : ∀ x, foldedSetIterable iter X.env x = pure x := by intro _; rfl) :
    PS X (.Assign [.Name y py] (.DictComp kx vx [⟨tg, iter, ifs, 0⟩] scope pos) spos) (tAsg (tDc wi g tt tk tv (own.map (·.2))) (gName i)) := by
  refine ⟨fun pins s σ H D I h => ?_⟩
  rw [exec_Assign_Name_used _ _ _ _ hsw]
  refine wpAny_bind (wpAny_standAt (wpAny_bind ?_))
  show wpAny _ X.A (do let _ ← comprehension (.DictComp kx vx [⟨tg, iter, ifs, 0⟩] scope pos) scope X.env (firstIterPos [⟨tg, iter, ifs, 0⟩] pos) newDict false (eval iter X.env) (some (assign (.Name y py) X.env))) _ _ s
  have h : tDc wi g tt tk tv (own.map (·.2)) σ H (fun x H1 => gName i x σ H1 D.nx) := h
  refine wpAny_bind (thn (dc_core (Qf := fun _ s' => SP X pins D .next s') hc hN I hi ok hg ht hk he hs h fun L C s' m H' I' q hn f => ?_) fun _ s' hq => wpAny_pure (wpAny_pure hq))
  show wpAny _ _ (assign (.Name y py) X.env (.ref L)) _ _ _
  refine wpAny_assign_Name (store_ok2 (v := V.ref L) I' hN hy (.inl hyl) rfl (fun s2 I2 ⟨a, sb, ha⟩ => ?_) (.inr hyl))
  obtain ⟨f0, f1, f2, f3, f4, f5⟩ := f
  have haC : C ≠ a := by
    rcases ha with z | z
    · rw [z]; exact f1
    · exact fun e => f4 y a z e.symm
  refine ⟨m, hn.sameBut sb haC, fun h3 sb3 => ?_⟩
  exact ⟨_, H', I2.turned (t' := s2.toks) (fun b o hb e => (sb3.2 b hb).trans e) f0 f1 f3 f4 f5, q⟩
theorem sw_trueD {kx vx : Expr} {gs : List Comprehension} {scope : Scope} {pos py : Pos} {y : Str} {l : Nat} {env : Env} (hk : env.scope.kind = .function) (hy : env.scope.names.lookup y = some .local) (hl : (py.line == pos.line) = true)
    (ha : (scope.names.any fun (n, k) => n == y && (k == .local || k == .cell)) = false) : swapsWith (.DictComp kx vx gs scope pos) (some (.Name y py)) l env = pure true := by
  have ky : env.kindOf y = some .local := hy
  have hb : env.blockKind = .function := by unfold Env.blockKind; rw [hk]; rfl
  unfold swapsWith
  simp only [hb, ky, ha, Expr.pos, hl]
  rfl
end
end Z

set_option Elab.async false
set_option maxRecDepth 100000
set_option maxHeartbeats 4000000
set_option linter.all false
/-! dict(list of pairs), t <= u of two tuples of two ints -/
namespace Z
open PySem L2
abbrev rDictP (K : PySem.W.Frag) : List V → Hp → VK → Prop := fun xs H Q => ∃ (a : Addr) (ps : List Addr) (kvs : List (Key × V)), xs = [.ref a] ∧ SqL K H a (ps.map V.ref) ∧ Paired (fun p kv => SqT K H p [kV kv.1, kv.2]) ps kvs ∧
    ∀ p, H p = none → Q (.ref p) (upd H p (.dK (mergeK [] kvs)))
theorem cr_dictP {X : Cx} (h : X.calm = true) : CallR X (.type "dict") (rDictP X.K) := call_dictP h
theorem s_dictP {K : PySem.W.Frag} {H : Hp} {Q : VK} {a : Addr} {ps : List Addr} {kvs : List (Key × V)} (h : SqL K H a (ps.map V.ref)) (hp : Paired (fun p kv => SqT K H p [kV kv.1, kv.2]) ps kvs)
    (k : ∀ p H', H p = none → Ex H H' → H' p = some (.dK (mergeK [] kvs)) → Q (.ref p) H') : rDictP K [.ref a] H Q := ⟨a, ps, kvs, rfl, h, hp, fun p hn => k p _ hn (Ex.new hn) upd_same⟩
theorem merge_not {k : Key} : ∀ {kvs : List (Key × V)} (acc : List (Key × V)), (∀ p ∈ kvs, p.1 ≠ k) → valV (mergeK acc kvs) k = valV acc k
  | [], acc, _ => rfl
  | p :: r, acc, h => by
    show valV (mergeK (putK acc p.1 p.2) r) k = _
    rw [merge_not (putK acc p.1 p.2) fun q hq => h q (List.mem_cons_of_mem _ hq), valV_put, if_neg fun z => h p List.mem_cons_self z.symm]
theorem merge_val {k : Key} {v : V} : ∀ {kvs : List (Key × V)} (acc : List (Key × V)), (kvs.map (·.1)).Nodup → (k, v) ∈ kvs → valV (mergeK acc kvs) k = some v
  | p :: r, acc, nd, h => by
    rw [List.map_cons] at nd
    obtain ⟨n1, n2⟩ := List.nodup_cons.mp nd
    show valV (mergeK (putK acc p.1 p.2) r) k = _
    rcases List.mem_cons.mp h with h | h
    · subst h
      rw [merge_not _ fun q hq z => n1 (by rw [← z]; exact List.mem_map.mpr ⟨q, hq, rfl⟩), valV_put, if_pos rfl]
    · exact merge_val _ n2 h
theorem s_leT2 {K : PySem.W.Frag} {H : Hp} {Q : VK} {a b : Addr} {p q r s : Int} (ha : SqT K H a [.int p, .int q]) (hb : SqT K H b [.int r, .int s]) (k : Q (.bl (decide (p < r ∨ (p = r ∧ q ≤ s)))) H) : rLeT K (.ref a) (.ref b) H Q := by
  refine ⟨a, b, [p, q], [r, s], rfl, rfl, ha, hb, ?_⟩
  have e : Ob.lexAt (fun j => decide (([p, q] : List Int).getD j 0 = ([r, s] : List Int).getD j 0)) (fun j => decide (([p, q] : List Int).getD j 0 ≤ ([r, s] : List Int).getD j 0)) (decide (([p, q] : List Int).length ≤ ([r, s] : List Int).length)) 0 (min ([p, q] : List Int).length ([r, s] : List Int).length) = decide (p < r ∨ (p = r ∧ q ≤ s)) := by
    show Ob.lexAt _ _ _ 0 2 = _
    rw [Ob.lexAt_succ, Ob.lexAt_succ, Ob.lexAt_zero]
    show (if decide (p = r) = true then (if decide (q = s) = true then true else decide (q ≤ s)) else decide (p ≤ r)) = _
    by_cases h1 : p = r
    · by_cases h2 : q = s
      · simp [h1, h2]
      · rw [if_pos (decide_eq_true h1), if_neg (by simpa using h2)]
        refine decide_eq_decide.mpr ⟨fun z => .inr ⟨h1, z⟩, fun z => ?_⟩
        omega
    · rw [if_neg (by simpa using h1)]
      refine decide_eq_decide.mpr ⟨fun z => ?_, fun z => ?_⟩ <;> omega
  rw [e]
  exact k
end Z

set_option Elab.async false
set_option linter.all false
set_option maxRecDepth 100000
set_option maxHeartbeats 4000000
/-! own exceptions over ValueError and over KeyError whose __init__ says super().__init__ and stores fields -/
namespace PySem
namespace ZEX
open PySem.W PySem.Calls PyProof.Rows PySem.HandSPX
abbrev keTail : List Value := [.type "KeyError", .type "LookupError", .type "Exception", .type "BaseException", .type "object"]
def tailX (b : Bool) : List Value := if b then keTail else veTail
/-- own classes, then the built-in ones of the family -/
def refsX (b : Bool) : List Value → Bool
  | .ref _ :: r => refsX b r
  | l => l == tailX b
theorem refsX_cases (b : Bool) : ∀ l : List Value, refsX b l = true → (∃ c r, l = .ref c :: r ∧ refsX b r = true) ∨ l = tailX b
  | [], e => .inr (beq_iff_eq.mp e)
  | .ref c :: r, e => .inl ⟨c, r, rfl, e⟩
  | .none :: _, e => .inr (beq_iff_eq.mp e)
  | .ellipsis :: _, e => .inr (beq_iff_eq.mp e)
  | .notImplemented :: _, e => .inr (beq_iff_eq.mp e)
  | .bool _ :: _, e => .inr (beq_iff_eq.mp e)
  | .int _ _ :: _, e => .inr (beq_iff_eq.mp e)
  | .float _ _ :: _, e => .inr (beq_iff_eq.mp e)
  | .str _ _ :: _, e => .inr (beq_iff_eq.mp e)
  | .bytes _ _ :: _, e => .inr (beq_iff_eq.mp e)
  | .type _ :: _, e => .inr (beq_iff_eq.mp e)
  | .builtin _ :: _, e => .inr (beq_iff_eq.mp e)
theorem passes_KE (self : Value) : refuseLoop self "__setattr__" keTail = pure () := by kernel_rfl
theorem refsX_nil (b : Bool) : refsX b [] = false := by cases b <;> decide
theorem refsX_pass (b : Bool) (self : Value) : ∀ l : List Value, refsX b l = true → refuseLoop self "__setattr__" l = pure () := by
  intro l
  induction l with
  | nil => intro e; rw [refsX_nil] at e; cases e
  | cons a r ih =>
    intro e
    rcases refsX_cases b (a :: r) e with ⟨c, r', q, h⟩ | q
    · obtain ⟨rfl, rfl⟩ := List.cons.inj q
      rw [refuseLoop_ref]; exact ih h
    · rw [q]
      cases b with
      | false => exact F.store_ValueError.passes self
      | true => exact passes_KE self
theorem refsX_contains (b : Bool) (X : String) : ∀ l : List Value, refsX b l = true → l.contains (.type X) = (tailX b).contains (.type X) := by
  intro l
  induction l with
  | nil => intro e; rw [refsX_nil] at e; cases e
  | cons a r ih =>
    intro e
    rcases refsX_cases b (a :: r) e with ⟨c, r', q, h⟩ | q
    · obtain ⟨rfl, rfl⟩ := List.cons.inj q
      rw [List.contains_cons, ih h]; rfl
    · rw [q]
theorem refsX_ne (b : Bool) {l : List Value} (e : refsX b l = true) : l.isEmpty = false := by
  cases l with
  | nil => rw [refsX_nil] at e; cases e
  | cons _ _ => rfl
def newIdX (b : Bool) : String := if b then "LookupError.__new__" else "ValueError.__new__"
def initIdX (b : Bool) : String := if b then "KeyError.__init__" else "ValueError.__init__"
def baseX (b : Bool) : String := if b then "KeyError" else "ValueError"

/-! ### type.__call__ on such a class -/
section
variable {M : Model} {A : Around} {E : Value → Shared → Prop} {h : Heap} {g : Array GenState} {d : Drawn} {t : Nat} {os : OsState}
variable {nm q : Str} {C N : Addr} {bs bm bmB : List Value} {hdct : Bool} {sn : List Str} {sub : List Value} {ab : Bool} {col : Option Bool} {dd : Option Addr} {k0 k1 k2 k3 k5 : Option Value} {B newId initId : String}
theorem check_newX (F : ExcBaseFacts B newId initId bmB) (hB : bm.contains (.type B) = true) {rest : List Value} {Q : Unit → Shared → Prop}
    (hC : h.get? C = some (excClassObj nm q C N bs bm hdct sn sub ab col dd k0 k1 k2 k3 k5 newId)) (hq : Q () ⟨h, g, d, t, os⟩) : wpAny M A (checkBuiltinCall newId ⟨.ref C :: rest, []⟩) Q E ⟨h, g, d, t, os⟩ := by
  have hcont : (Value.ref C :: bm).contains (.type B) = true := by rw [List.contains_cons, hB, Bool.or_true]
  have hstar := F.noStar
  simp only [checkBuiltinCall, F.newKind, F.newSplit, F.newRow]
  repeat (first | refine wpAny_loadPart_at hC ?_ | (refine wpAny_isSubtype_exc hC ?_; rw [hcont]) | refine wpAny_staticBase_exc hC ?_ | refine wpAny_madeBy_exc hC ?_ | simp only [bne_self_eq_false, Bool.false_eq_true, if_false] | wp_step)
  exact hq
end
section
variable {prog : Program} {w : World} {A : Around} {E : Value → Shared → Prop} {R : Result → Shared → Prop} {h : Heap} {g : Array GenState} {d : Drawn} {t : Nat} {os : OsState}
variable {nm q : Str} {C N : Addr} {bs bm bmB : List Value} {hdct : Bool} {sn : List Str} {sub : List Value} {ab : Bool} {col : Option Bool} {dd : Option Addr} {k0 k1 k2 k3 k5 : Option Value} {B newId initId : String}
theorem newX (F : ExcBaseFacts B newId initId bmB) (hB : bm.contains (.type B) = true) (hA : bm.contains (.type "AttributeError") = false) (hN : bm.contains (.type "NameError") = false) {rest : List Value}
    (hC : h.get? C = some (excClassObj nm q C N bs bm hdct sn sub ab col dd k0 k1 k2 k3 k5 newId))
    (hq : R (.ok (.ret (.ref (h.objs.size + 1)))) ⟨(h.push { cls := .type "tuple", data := .seq rest.toArray }).push
      { cls := .ref C, data := .fields #[.ref h.objs.size, .none, .none, .none, .bool false, .none] }, g, d, t, os⟩) (hrest : rest.length ≤ sizeLine) :
    codeAny (model prog w) A (.builtin newId ⟨.ref C :: rest, []⟩) R ⟨h, g, d, t, os⟩ := by
  have hends := F.ends
  have hcB : (Value.ref C :: bm).contains (.type B) = true := by rw [List.contains_cons, hB, Bool.or_true]
  have hcA : (Value.ref C :: bm).contains (.type "AttributeError") = false := by rw [List.contains_cons, hA]; rfl
  have hcN : (Value.ref C :: bm).contains (.type "NameError") = false := by rw [List.contains_cons, hN]; rfl
  refine codeAny_builtinAt F.entry ?_
  unfold Builtin.«BaseException.__new__»
  refine wpAt_bind ?_
  show wpAt _ _ _ (stack >>= _) _ _ _
  refine wpAt_bind (wpAt_stack fun p below => wpAt_of_wpAny ?_)
  wp_walk
  refine wpAt_of_wpAny ?_
  rw [F.owner]
  repeat (first | with_reducible refine wpAny_madeHere_exc F.canon hC ?_ | with_reducible refine wpAny_loadPart_at hC ?_ | (with_reducible refine wpAny_isSubtype_exc hC ?_; first | rw [hcB] | rw [hcA] | rw [hcN]) | wp_step)
  show R _ _
  rw [Heap.size_push]
  exact hq
theorem type_callX (F : ExcBaseFacts B newId initId bmB) (hB : bm.contains (.type B) = true) (hA : bm.contains (.type "AttributeError") = false) (hN : bm.contains (.type "NameError") = false) {rest : List Value} {fI : Addr} {Q : Fin → Shared → Prop}
    (hC : h.get? C = some (excClassObj nm q C N bs bm hdct sn sub ab col dd k0 k1 k2 k3 k5 newId))
    (hi : W.Looks (model prog w) h (typeLookup (.ref C) "__init__") (some (.ref fI))) (hb : ∀ self, W.Looks (model prog w) h (bindSpecial (.ref fI) self) (.ref fI, [self])) (hrest : rest.length ≤ sizeLine)
    (hq : codeAny (model prog w) A (.call (.ref fI) ⟨.ref (h.objs.size + 1) :: rest, []⟩)
      (fun r s' => match r with | .ok (.ret v) => v = .none ∧ Q (.done (.ret (.ref (h.objs.size + 1)))) s' | .ok _ => False | .error e => E e s')
      ⟨(h.push (W.kdv_tup rest)).push (excO C h.objs.size), g, d, t, os⟩) :
    wpAny (model prog w) A (Builtin.«type.__call__» ⟨.ref C :: rest, []⟩) Q E ⟨h, g, d, t, os⟩ := by
  repeat (first | with_reducible refine wpAny_loadPart_at hC ?_ | with_reducible refine wpAny_madeBy_exc hC ?_ | wp_step)
  refine codeAny_call_builtin_code (Code.quiet_builtin _ F.quiet) (check_newX F hB hC ?_)
  refine newX F hB hA hN hC ?_ hrest
  show wpAny _ _ _ _ _ _
  have k : ∀ b o, h.get? b = some o → ((h.push (W.kdv_tup rest)).push (excO C h.objs.size)).get? b = some o := fun b o e => Heap.get?_push_of_some _ (Heap.get?_push_of_some _ e)
  have hC₁ := k _ _ hC
  have hget : ((h.push (W.kdv_tup rest)).push (excO C h.objs.size)).get? (h.objs.size + 1) = some (excO C h.objs.size) := by heap_get
  have hcC : (Value.ref C :: bm).contains (.ref C) = true := by simp
  have i1 := hi.keeps k
  have b1 := (hb (.ref (h.objs.size + 1))).keeps k
  unfold isInstance
  repeat (first | with_reducible refine wpAny_loadPart_at hget ?_ | (with_reducible refine wpAny_isSubtype_exc hC₁ ?_; rw [hcC]) | wp_step)
  show wpAny _ _ (typeLookup (.ref C) _) _ _ _
  refine i1.at ?_
  refine wpAny_holding (wpAny_bind (b1.at ?_))
  refine wpAny_bind (wpAny_call (codeAny_mono hq fun r s' z => ?_))
  rcases r with e | (v | _ | _ | _) <;> first | exact z | exact z.elim | skip
  obtain ⟨rfl, z⟩ := z
  first
    | exact wpAny_pure (wpAny_pure z)
    | (wp_walk; exact z)
theorem callX (F : ExcBaseFacts B newId initId bmB) (hB : bm.contains (.type B) = true) (hA : bm.contains (.type "AttributeError") = false) (hN : bm.contains (.type "NameError") = false) {rest : List Value} {fI : Addr}
    (hC : h.get? C = some (excClassObj nm q C N bs bm hdct sn sub ab col dd k0 k1 k2 k3 k5 newId))
    (hi : W.Looks (model prog w) h (typeLookup (.ref C) "__init__") (some (.ref fI))) (hb : ∀ self, W.Looks (model prog w) h (bindSpecial (.ref fI) self) (.ref fI, [self])) (hrest : rest.length ≤ sizeLine)
    (hq : codeAny (model prog w) (A.under (.builtin "type.__call__" ⟨.ref C :: rest, []⟩)) (.call (.ref fI) ⟨.ref (h.objs.size + 1) :: rest, []⟩) (W.InitBack (h.objs.size + 1) R)
      ⟨(h.push (W.kdv_tup rest)).push (excO C h.objs.size), g, d, t, os⟩) :
    codeAny (model prog w) A (.call (.ref C) ⟨rest, []⟩) R ⟨h, g, d, t, os⟩ := by
  have f1 := tc_lookup
  have f2 := tc_bind (.ref C)
  have hTy : (⟨h, g, d, t, os⟩ : Shared).TypeIs (.ref C) "type" := ⟨_, hC, rfl⟩
  refine codeAny_of_tree ?_
  show wpAny _ _ (callAny (.ref C) _) _ _ _
  repeat (any_goals (first | assumption | with_reducible refine wpAny_loadPart_at hC ?_ | wp_step))
  refine ⟨rfl, ?_⟩
  refine codeAny_call_builtin_at (Code.quiet_builtin _ (by decide +kernel)) entry_typeCall (wpAny_check_type_call_sub hC (type_callX F hB hA hN hC hi hb hrest ?_))
  refine codeAny_mono hq fun r s' z => ?_
  rcases r with e | (v | _ | _ | _) <;> exact z
theorem callB (b : Bool) (hbm : refsX b bm = true) {rest : List Value} {fI : Addr}
    (hC : h.get? C = some (excClassObj nm q C N bs bm hdct sn sub ab col dd k0 k1 k2 k3 k5 (newIdX b)))
    (hi : W.Looks (model prog w) h (typeLookup (.ref C) "__init__") (some (.ref fI))) (hb : ∀ self, W.Looks (model prog w) h (bindSpecial (.ref fI) self) (.ref fI, [self])) (hrest : rest.length ≤ sizeLine)
    (hq : codeAny (model prog w) (A.under (.builtin "type.__call__" ⟨.ref C :: rest, []⟩)) (.call (.ref fI) ⟨.ref (h.objs.size + 1) :: rest, []⟩) (W.InitBack (h.objs.size + 1) R)
      ⟨(h.push (W.kdv_tup rest)).push (excO C h.objs.size), g, d, t, os⟩) :
    codeAny (model prog w) A (.call (.ref C) ⟨rest, []⟩) R ⟨h, g, d, t, os⟩ := by
  cases b with
  | false => exact callX F.excBase_ValueError ((refsX_contains false _ _ hbm).trans (by decide +kernel)) ((refsX_contains false _ _ hbm).trans (by decide +kernel)) ((refsX_contains false _ _ hbm).trans (by decide +kernel)) hC hi hb hrest hq
  | true => exact callX F.excBase_LookupError ((refsX_contains true _ _ hbm).trans (by decide +kernel)) ((refsX_contains true _ _ hbm).trans (by decide +kernel)) ((refsX_contains true _ _ hbm).trans (by decide +kernel)) hC hi hb hrest hq
end

/-! ### super().__init__(..): the built-in one -/
theorem kxs_KeyError : KxsFacts "KeyError" "KeyError.__init__" := ⟨by show builtinType _ = _; rw [builtinType_eq_fast]; kernel_rfl, by first | kernel_rfl | rfl⟩
theorem kxsX (b : Bool) : KxsFacts (baseX b) (initIdX b) := by
  cases b with
  | false => exact kxs_ValueError
  | true => exact kxs_KeyError
section
variable {M : Model} {A : Around} {E : Value → Shared → Prop} {h : Heap} {g : Array GenState} {d : Drawn} {t : Nat} {os : OsState}
variable {nm q : Str} {C N : Addr} {bs bm bmB : List Value} {hdct : Bool} {sn : List Str} {sub : List Value} {ab : Bool} {col : Option Bool} {dd : Option Addr} {k0 k1 k2 k3 k5 : Option Value} {newId cls initId : String}
theorem check_bX {e : Addr} {oe : Obj} {rest : List Value} {Q : Unit → Shared → Prop} (nS : (cls != "*") = true) (iK : builtinKind initId = some .slot) (iR : Manifest.signature? initId = some ⟨.positional, "*", cls, .self, [⟨"args", .varPos, false⟩]⟩)
    (hC : h.get? C = some (excClassObj nm q C N bs bm hdct sn sub ab col dd k0 k1 k2 k3 k5 newId)) (he : h.get? e = some oe) (hcls : oe.cls = .ref C) (hq : Q () ⟨h, g, d, t, os⟩) : wpAny M A (checkBoundCall initId ⟨.ref e :: rest, []⟩) Q E ⟨h, g, d, t, os⟩ := by
  have hshort := nS
  simp only [checkBoundCall, iK, iR]
  repeat (first | (with_reducible refine wpAny_loadPart_at he ?_; rw [hcls]) | with_reducible refine wpAny_loadPart_at hC ?_ | wp_step)
  refine wpAny_onRaise ?_
  rw [show ∀ (a b : String) (n : Nat), Bind.check ⟨.positional, "*", cls, .self, [⟨"args", .varPos, false⟩]⟩ a b n (List.map (fun x => x.fst) ({ pos := Value.ref e :: rest } : Args).kw) = pure () from
    fun a b n => check_star_args _ _ _ _ _ _]
  exact wpAny_pure hq
end
section
variable {prog : Program} {w : World} {A : Around} {E : Value → Shared → Prop} {h : Heap} {g : Array GenState} {d : Drawn} {t : Nat} {os : OsState}
variable {nm q : Str} {C N : Addr} {bs bm : List Value} {hdct : Bool} {sn : List Str} {sub : List Value} {ab : Bool} {col : Option Bool} {dd : Option Addr} {k0 k1 k2 k3 k5 : Option Value} {newId : String}
theorem super_callG {initId cls : String} {u e t0 : Addr} {rest : List Value} {Q : Value → Shared → Prop} (nS : (cls != "*") = true) (iK : builtinKind initId = some .slot) (iR : Manifest.signature? initId = some ⟨.positional, "*", cls, .self, [⟨"args", .varPos, false⟩]⟩)
    (pl : plainId initId = true) (en : entryFor table initId = some Builtin.«BaseException.__init__»)
    (hC : h.get? C = some (excClassObj nm q C N bs bm hdct sn sub ab col dd k0 k1 k2 k3 k5 newId)) (he : h.get? e = some (excO C t0)) (hu : h.get? u = some (kxs_mw initId e)) (hrest : rest.length ≤ sizeLine)
    (hq : ∀ h' t1, (∀ b o, b ≠ e → h.get? b = some o → h'.get? b = some o) → h'.get? e = some (excO C t1) → Q .none ⟨h', g, d, t, os⟩) :
    wpAny (model prog w) A (call (.ref u) rest) Q E ⟨h, g, d, t, os⟩ := by
  refine wpAny_call (codeAny_of_tree ?_)
  show wpAny _ A.in1 (callAny (.ref u) ⟨rest, []⟩) _ _ _
  simp only [callAny]
  refine wpAny_bind (wpAny_load hu ?_)
  simp only [kxs_mw, show (Value.type "method-wrapper" == Value.type "method" || Value.type "method-wrapper" == Value.type "builtin_function_or_method" || Value.type "method-wrapper" == Value.type "method-wrapper") = true by decide, if_true]
  refine W.KFB.if_so (by decide) ?_
  refine wpAny_bind (check_bX nS iK iR hC he rfl ?_)
  refine wpAny_bind (wpAny_pure (wpAny_pure ?_))
  refine ⟨plainId_quiet pl _, codeAny_builtin en ?_⟩
  rw [Around.under_plainId pl _]
  exact exc_init_tree (cls := .ref C) (t0 := t0) (dv := none) (c2 := .none) (c3 := .none) (b4 := .bool false) he hrest fun h' k e' _ => hq h' _ k e'
theorem super_call (b : Bool) {u e t0 : Addr} {rest : List Value} {Q : Value → Shared → Prop}
    (hC : h.get? C = some (excClassObj nm q C N bs bm hdct sn sub ab col dd k0 k1 k2 k3 k5 newId)) (he : h.get? e = some (excO C t0)) (hu : h.get? u = some (kxs_mw (initIdX b) e)) (hrest : rest.length ≤ sizeLine)
    (hq : ∀ h' t1, (∀ b o, b ≠ e → h.get? b = some o → h'.get? b = some o) → h'.get? e = some (excO C t1) → Q .none ⟨h', g, d, t, os⟩) :
    wpAny (model prog w) A (call (.ref u) rest) Q E ⟨h, g, d, t, os⟩ := by
  cases b with
  | false =>
    rw [show initIdX false = "ValueError.__init__" from rfl] at hu
    exact super_callG F.excBase_ValueError.noStar F.excBase_ValueError.initKind F.excBase_ValueError.initRow F.excBase_ValueError.init.plain F.excBase_ValueError.initEntry hC he hu hrest hq
  | true =>
    rw [show initIdX true = "KeyError.__init__" from rfl] at hu
    exact super_callG excClass_KeyError.notStar excClass_KeyError.initKind excClass_KeyError.initSig excClass_KeyError.init.plain excClass_KeyError.initEntry hC he hu hrest hq
end
end ZEX
end PySem

set_option Elab.async false
set_option linter.all false
set_option maxRecDepth 100000
set_option maxHeartbeats 4000000
namespace PySem
namespace ZEX
open PySem.W PySem.Calls PyProof.Rows PySem.HandSPX
section
open Builtin Builtin.ObjectAttr
variable {prog : Program} {w : World} {A : Around} {E : Value → Shared → Prop} {R : Result → Shared → Prop} {hp : Heap} {g : Array GenState} {d : Drawn} {t : Nat} {os : OsState}
/-- self.name = v on an exception of the family: the walk to the own dict -/
theorem osaX {K : W.Frag} {b : Bool} {name : Str} {tk : Tok} {v : Value} {x C : Addr} {ox : Obj} {od : Option Obj} {cd : ClassData}
    (X : K.In hp) (I : W.InstAt hp x ox C od) (hcd : W.clsIn K C = some cd) (hm : refsX b cd.mro = true) (ha : W.findIn K (.ref C) name = some none)
    (hq : wpAny (model prog w) A.in1 (storeInOwnDict (.ref x) (.ref C) (.str name tk) name v false)
      (fun fin s' => match fin with | .done f => R (.ok f) s' | .again c' => c'.quiet = true ∧ codeAny (model prog w) A c' R s') (fun e s' => R (.error e) s') ⟨hp, g, d, t, os⟩) :
    codeAny (model prog w) A (.call (.builtin "object.__setattr__") ⟨[.ref x, .str name tk, v], []⟩) R ⟨hp, g, d, t, os⟩ := by
  have SF := F.store_object
  have ne := refsX_ne b hm
  have hob : cd.mro.contains (.type "object") = true := (refsX_contains b "object" _ hm).trans (by cases b <;> decide +kernel)
  have sub : W.Looks (model prog w) hp (isInstance (.ref x) (.type "object")) true := I.type.andThen (W.looks_mroIn X (by unfold W.mroIn; rw [hcd, Option.bind_some, if_neg (by rw [ne]; decide), hob]))
  refine codeAny_call_builtin SF.slot.plain SF.entry (@W.check_slot (model prog w) _ _ ⟨hp, g, d, t, os⟩ "object.__setattr__" "object" "__setattr__" (.ref x) [.str name tk, v] [] _ SF.kind SF.split sub (SF.args (.ref x) (.str name tk) v) ?_)
  have hmr : W.Looks (model prog w) hp (mroOf (.ref C)) cd.mro := (W.looks_clsIn X hcd).andThen .now
  have L3 : W.Looks (model prog w) hp (storeTaker? none) none := .now
  rw [W.osa_eq, refuse_eq]
  refine wpAny_bind (wpAny_bind (I.type.at (wpAny_bind (hmr.at ?_))))
  rw [refsX_pass b _ _ hm]
  refine wpAny_pure (wpAny_bind (I.type.at (wpAny_bind ((W.looks_findIn X ha).at (wpAny_bind (L3.at ?_))))))
  exact hq
theorem osaX_new {K : W.Frag} {b : Bool} {name : Str} {tk : Tok} {v : Value} {x C : Addr} {fv : Array Value} {cd : ClassData}
    (X : K.In hp) (hx : hp.get? x = some { cls := .ref C, data := .fields fv }) (hcd : W.clsIn K C = some cd) (hm : refsX b cd.mro = true) (hh : cd.hasDict = true) (ha : W.findIn K (.ref C) name = some none)
    (hq : ∀ h' tk' dx, (∀ b o, b ≠ x → hp.get? b = some o → h'.get? b = some o) → hp.objs.size ≤ dx → dx ≠ x → h'.get? x = some { cls := .ref C, dict := some dx, data := .fields fv } →
      h'.Ns1 dx (fun y => if y = name then some v else none) → R (.ok (.ret .none)) ⟨h', g, d, tk', os⟩) :
    codeAny (model prog w) A (.call (.builtin "object.__setattr__") ⟨[.ref x, .str name tk, v], []⟩) R ⟨hp, g, d, t, os⟩ := by
  have I : W.InstAt hp x { cls := .ref C, data := .fields fv } C none := ⟨hx, rfl, rfl, trivial⟩
  have hxs : x ≠ hp.objs.size := Nat.ne_of_lt (Heap.lt_size hx)
  refine osaX X I hcd hm ha ?_
  have hcls : W.Looks (model prog w) hp (classData C) cd := W.looks_clsIn X hcd
  obtain ⟨nm, bs, mro, ns, qn, hd, sn, sb, ab, col, del⟩ := cd
  dsimp only at hh
  subst hh
  unfold storeInOwnDict ownDictForStores
  repeat (first | with_reducible refine HandSPX.store_in_new ?_ ?_ | with_reducible refine wpAny_loadPart_at hx ?_ | with_reducible refine hcls.at ?_ | wp_step)
  · exact ⟨_, #[], _, (Heap.get?_update_ne _ _ _ _ hxs.symm).trans (Heap.get?_push_at rfl rfl), rfl, fun e he => absurd he (by simp), fun _ => rfl⟩
  · intro h' tk' hn' hs
    have hx₁ : (hp.push { cls := .type "dict", data := .dict #[] }).get? x = some { cls := .ref C, data := .fields fv } := Heap.get?_push_of_some _ hx
    refine hq h' tk' hp.objs.size (fun b o hb ho => ?_) (Nat.le_refl _) hxs.symm ?_ hn'
    · exact (hs.2 b (Nat.ne_of_lt (Heap.lt_size ho))).trans ((Heap.get?_update_ne _ _ _ _ hb).trans (Heap.get?_push_of_some _ ho))
    · exact (hs.2 x hxs).trans (Heap.get?_update_self _ hx₁ rfl)
theorem osaX_old {K : W.Frag} {b : Bool} {name : Str} {tk : Tok} {v : Value} {x C dx : Addr} {fv : Array Value} {cd : ClassData} {m0 : Str → Option Value} {nl : List Str}
    (X : K.In hp) (hx : hp.get? x = some { cls := .ref C, dict := some dx, data := .fields fv }) (hns : hp.Ns1 dx m0) (hw : Within m0 nl) (hz : nl.length ≤ 1000) (hcd : W.clsIn K C = some cd) (hm : refsX b cd.mro = true) (hh : cd.hasDict = true)
    (ha : W.findIn K (.ref C) name = some none)
    (hq : ∀ h' tk', (∀ b o, b ≠ dx → hp.get? b = some o → h'.get? b = some o) → h'.Ns1 dx (fun y => if y = name then some v else m0 y) → R (.ok (.ret .none)) ⟨h', g, d, tk', os⟩) :
    codeAny (model prog w) A (.call (.builtin "object.__setattr__") ⟨[.ref x, .str name tk, v], []⟩) R ⟨hp, g, d, t, os⟩ := by
  obtain ⟨oD, esD, epD, hoD, hdD, _⟩ := hns.count hw
  have I : W.InstAt hp x { cls := .ref C, dict := some dx, data := .fields fv } C (some oD) := ⟨hx, rfl, rfl, hoD⟩
  refine osaX X I hcd hm ha ?_
  have hcls : W.Looks (model prog w) hp (classData C) cd := W.looks_clsIn X hcd
  obtain ⟨nm, bs, mro, ns, qn, hd, sn, sb, ab, col, del⟩ := cd
  dsimp only at hh
  subst hh
  unfold storeInOwnDict ownDictForStores
  repeat (first | with_reducible refine OEX.store_in_old hns hw hz ?_ | with_reducible refine wpAny_loadPart_at hx ?_ | with_reducible refine hcls.at ?_ | wp_step)
  intro h' tk' hn' hs
  exact hq h' tk' (fun b o hb ho => (hs.2 b hb).trans ho) hn'
end
/-! ### e.__class__, C.__name__ -/
section
variable {prog : Program} {w : World} {A : Around} {E : Value → Shared → Prop} {s : Shared} {K : Frag} {x C : Addr} {ox : Obj} {od : Option Obj}
theorem class_getE {gt : Option Value} {expr : Bool} {Q : Value → Shared → Prop} (X : K.In s.heap) (I : InstAt s.heap x ox C od) (hga : findIn K (.ref C) "__getattribute__" = some (some (.builtin "BaseException.__getattribute__"))) (hgt : findIn K (.ref C) "__getattr__" = some gt)
    (hsub : subIn K (.ref C) (.type "BaseException") = some true) (hf : findObj K C od "__class__" = some (.bind (.builtin "getset_descriptor.__get__") (.builtin "object.__class__"))) (hm : mroIn K C (.type "object") = some true)
    (h : Q (.ref C) { s with toks := s.toks + 1 }) : wpAny (model prog w) A (getAttr (.ref x) "__class__" expr) Q E s := by
  obtain ⟨hp, g, d, t, os⟩ := s
  have L0 := I.type (M := model prog w)
  have L1 := looks_findIn (M := model prog w) X hga
  have L2 := looks_findIn (M := model prog w) X hgt
  have L3 := looks_find (M := model prog w) X I hf
  have sub : Looks (model prog w) hp (isInstance (.ref x) (.type "BaseException")) true := L0.andThen (looks_subIn X hsub)
  have hx0 : (expr && onTheHeap (Value.builtin "BaseException.__getattribute__")) = false := by cases expr <;> rfl
  have hx2 : (Value.builtin "BaseException.__getattribute__" == Value.builtin "object.__getattribute__") = false := by decide +kernel
  have hx1 : (onTheHeap (Value.ref C) && Value.builtin "BaseException.__getattribute__" == Value.builtin "object.__getattribute__") = false := by rw [hx2]; rfl
  unfold getAttr getAttrBy
  refine wpAny_bind (wpAny_mkText (wpAny_holding (wpAny_bind (L0.at (wpAny_bind (L1.at ?_))))))
  show wpAny _ _ (if (onTheHeap (Value.ref C) && Value.builtin "BaseException.__getattribute__" == Value.builtin "object.__getattribute__") = true then _ else _) _ _ _
  rw [hx1, if_neg Bool.false_ne_true]
  unfold getAttrByItsOwn hookBefore
  refine wpAny_bind ?_
  rw [if_pos (show onTheHeap (Value.ref C) = true from rfl)]
  refine L2.at ?_
  refine wpAny_bind (wpAny_attempt (wpAny_holding ?_))
  unfold callGetattribute
  rw [hx0, if_neg Bool.false_ne_true]
  unfold boundAndCalled
  rw [PySem.F.excAttr_ValueError.ga.bind (.ref x)]
  refine wpAny_bind (wpAny_pure ?_)
  show wpAny _ _ (call (.builtin "BaseException.__getattribute__") [.ref x, .str "__class__" t]) _ _ _
  refine wpAny_call (codeAny_call_builtin PySem.F.excAttr_ValueError.ga.plain PySem.F.entry_bexc_ga ?_)
  refine @PySem.W.check_slot (model prog w) _ _ ⟨hp, g, d, t + 1, os⟩ "BaseException.__getattribute__" "BaseException" "__getattribute__" (.ref x) [.str "__class__" t] [] _ (by decide +kernel) (by decide +kernel) sub (PySem.F.args_bexc_ga (.ref x) (.str "__class__" t)) ?_
  unfold Builtin.«object.__getattribute__»
  refine wpAny_bind (wpAny_of_eq (a := ((Value.ref x : Value), [Value.str "__class__" t])) (by first | rfl | (simp only [slotArgs]; rfl)) ?_)
  refine wpAny_bind (wpAny_pure (wpAny_bind (L0.at (wpAny_bind (L3.at ?_)))))
  refine wpAny_bind (wpAny_holding (wpAny_call (class_get (s := ⟨hp, g, d, t + 1, os⟩) (ox := ox) (od := od) X I hm ?_)))
  refine wpAny_pure ?_
  show wpAny _ _ (handedOut (.ref C)) _ _ _
  rw [handedOut_of (show handedIn (.ref C) = true from rfl)]
  first | exact wpAny_pure h | exact wpAny_pure (wpAny_pure h)
end
section
open Builtin Builtin.ObjectAttr Builtin.Getset_descriptor
variable {prog : Program} {w : World} {A : Around} {E : Value → Shared → Prop} {s : Shared} {K : Frag} {C : Addr} {R : Result → Shared → Prop}
/-- what stands in a class's place of its name -/
def nameIn (K : Frag) (C : Addr) : Option Value := match K.lookup C with
  | some o => (o.slots[2]?).join
  | none => none
theorem name_get {tp v : Value} (X : K.In s.heap) (ht : typeIn K (.ref C) = some (.type "type")) (hn : nameIn K C = some v) (h : R (.ok (.ret v)) s) :
    codeAny (model prog w) A (.call (.builtin "getset_descriptor.__get__") ⟨[.builtin "type.__name__", .ref C, tp], []⟩) R s := by
  obtain ⟨o, ho, hs⟩ : ∃ o, K.lookup C = some o ∧ (o.slots[2]?).join = some v := by
    unfold nameIn at hn
    split at hn
    · rename_i o e
      exact ⟨o, e, hn⟩
    · cases hn
  have hC := X _ _ ho
  obtain ⟨hh, g, dr, t, os⟩ := s
  have L0 : Looks (model prog w) hh (typeOf (.ref C)) (.type "type") := looks_typeIn X ht
  have L1 : Looks (model prog w) hh (isSubtype (.type "type") (.type "type")) true := Looks.of_pure (by rw [isSubtype_type]; kernel_rfl)
  refine codeAny_call_builtin KF.slot_gs.plain KF.entry_gs (KF.slot_gs.check _ _ _ _ _ _ _ _ ktyn_type (KF.args_gs _ _ _) ?_)
  unfold Builtin.«getset_descriptor.__get__» descrGet
  rw [dga_obj]
  refine wpAny_bind (wpAny_pure ?_)
  unfold descrGetter descrCheckInstance descrNameAndClass isInstance
  simp only [ktyn_owner]
  repeat lk
  refine ⟨Code.quiet_builtin _ (by decide +kernel), codeAny_builtin ktyn_entry ?_⟩
  unfold Builtin.«type.__name__» keptObject slotAt
  dsimp only
  refine wpAny_bind (wpAny_bind (wpAny_loadPart hC (wpAny_pure ?_)))
  rw [hs]
  exact wpAny_pure h
theorem cls_name {expr : Bool} {v : Value} {Q : Value → Shared → Prop} (X : K.In s.heap) (ho : nsIn K cStatics "thirdparty.any" = some none) (ht : typeIn K (.ref C) = some (.type "type"))
    (e : findCls K (.ref C) (.type "type") "__name__" = some (.get (.builtin "getset_descriptor.__get__") (.builtin "type.__name__") (.ref C) (.type "type"))) (hn : nameIn K C = some v) (hh : handedIn v = true)
    (h : ∀ u, Q v { s with toks := u }) : wpAny (model prog w) A (getAttr (.ref C) "__name__" expr) Q E s := by
  have hg : findIn K (.type "type") "__getattribute__" = some (some (.builtin "type.__getattribute__")) := type_tga
  refine cls_open X (looks_opaque X ho) (looks_typeIn X ht) hg (looks_hook X (r := none) (by rfl)) (by show subIn K _ _ = _; rfl) e ?_
  show wpAny _ _ (do ret (← holding [Value.builtin "type.__name__"] (call (.builtin "getset_descriptor.__get__") [.builtin "type.__name__", .ref C, .type "type"]))) _ _ _
  refine wpAny_bind (wpAny_holding (wpAny_call (name_get (s := { s with toks := s.toks + 1 }) X ht hn ?_)))
  exact wpAny_pure (handed_on hh (h _))
end
end ZEX
end PySem

set_option Elab.async false
set_option linter.all false
set_option maxRecDepth 100000
set_option maxHeartbeats 4000000
namespace L2
open PySem PySem.Spec PySem.Calls PyProof.Rows NdefX ClX
/-- what the written part says of an own exception class of the family b -/
structure OxC (K : PySem.W.Frag) (b : Bool) (C : Addr) : Prop where
  cls : ∃ nm q N bs bm sn sub ab col dd k0 k1 k2 k3 k5, K.lookup C = some (excClassObj nm q C N bs bm true sn sub ab col dd k0 k1 k2 k3 k5 (PySem.ZEX.newIdX b)) ∧ PySem.ZEX.refsX b bm = true
  sa : PySem.W.findIn K (.ref C) "__setattr__" = some (some (.builtin "object.__setattr__"))
  exC : PySem.W.subIn K (.ref C) (.type "BaseException") = some true
  tyC : PySem.W.typeIn K (.ref C) = some (.type "type")
  kC : PySem.W.keepIn K (.ref C) = true
/-- what of it its own name wants -/
structure NmC (K : PySem.W.Frag) (C : Addr) (nm : Str) : Prop where
  ga : PySem.W.findIn K (.ref C) "__getattribute__" = some (some (.builtin "BaseException.__getattribute__"))
  gg : PySem.W.findIn K (.ref C) "__getattr__" = some none
  exC : PySem.W.subIn K (.ref C) (.type "BaseException") = some true
  ic : PySem.W.isClsIn K C = true
  ca : PySem.W.findIn K (.ref C) "__class__" = some (some (.builtin "object.__class__"))
  sp : PySem.W.specialIn K (.builtin "object.__class__") "__get__" = some (some (.builtin "getset_descriptor.__get__"))
  tk : PySem.W.takesIn K (.builtin "object.__class__") = some true
  ob : PySem.W.mroIn K C (.type "object") = some true
  st : PySem.W.nsIn K cStatics "thirdparty.any" = some none
  ty : PySem.W.typeIn K (.ref C) = some (.type "type")
  cn : PySem.W.findCls K (.ref C) (.type "type") "__name__" = some (.get (.builtin "getset_descriptor.__get__") (.builtin "type.__name__") (.ref C) (.type "type"))
  nm : ∃ t, PySem.ZEX.nameIn K C = some (.str nm t)
section
variable {X : Cx} {pins : List (Addr × Obj)} {σ : St} {H : Hp} {s : Shared} {a C dx : Addr} {b : Bool} {f : Str} {y : V} {u : Value} {fs : List (Str × V)} {Q : Unit → Shared → Prop} {E : Value → Shared → Prop} {A : Around}
/-- self.f = y, the first one -/
theorem ostX_new (T : OxC X.K b C) (I : Inv X pins σ H s) (e : H a = some (exo a C none)) (hno : PySem.W.findIn X.K (.ref C) f = some none) (ry : RelV y u)
    (h : ∀ dx s', H dx = none → dx ≠ a → Inv X pins σ (upd (upd H dx (exd dx [(f, y)])) a (exo a C (some dx))) s' → Q () s') : wpAny (model X.prog X.w) A (setAttr (.ref a) f u) Q E s := by
  obtain ⟨nm, q, N, bs, bm, sn, sub, ab, col, dd, k0, k1, k2, k3, k5, hC, hbm⟩ := T.cls
  have hcl : PySem.W.clsIn X.K C = some { name := nm, bases := bs, mro := .ref C :: bm, ns := N, qualname := q, hasDict := true, slotNames := sn, subclasses := sub, abstract := ab, collection := col, hasDel := false } := by unfold PySem.W.clsIn; rw [hC] <;> rfl
  obtain ⟨t1, ho⟩ := exo_at I.hok e
  obtain ⟨hp, g, d, t, os⟩ := s
  refine PySem.W.set_plain I.kIn (ox := { cls := .ref C, dict := none, data := .fields #[.ref t1, .none, .none, .none, .bool false, .none] }) (od := none) ⟨ho, rfl, rfl, trivial⟩ T.sa ?_
  refine PySem.ZEX.osaX_new (b := b) I.kIn ho hcl (show PySem.ZEX.refsX b (.ref C :: bm) = true from hbm) rfl hno (fun h' tk' dx k dn dne hx hn => ?_)
  have hnd : H dx = none := I.hok.fresh dn
  have nd : ∀ {b : Addr} {o : Obj}, hp.get? b = some o → b ≠ dx := fun {b o} q => Nat.ne_of_lt (Nat.lt_of_lt_of_le (Heap.lt_size q) dn)
  have na : ∀ {b : Addr}, H b = none → b ≠ a := fun {b} n z => by
    rw [z, e] at n
    cases n
  have Un1 : Un X.fs [] H (upd (upd H dx (exd dx [(f, y)])) a (exo a C (some dx))) hp h' := {
    keep := fun b o q n _ _ => k b o (na n) q
    slot := fun b o q n _ _ => ⟨o.slots, k b o (na n) q⟩
    free := fun b o q n _ => by rw [upd_ne (na n), upd_ne (nd q)]; exact n
    there := fun b o q _ => by
      by_cases hb : b = a
      · exact ⟨_, by rw [hb]; exact hx⟩
      · exact ⟨o, k b o hb q⟩
    tups := fun b xs q => by rw [upd_ne (at_ne e q exo_tup), upd_ne (ne_of_none q hnd)]; exact q
    frzs := fun b o v q => by rw [upd_ne (at_ne e q exo_frz), upd_ne (ne_of_none q hnd)]; exact q
    tbls := fun b ps q => ⟨#[], by rw [upd_ne (at_ne e q exo_tbl), upd_ne (ne_of_none q hnd), q]; simp⟩ }
  refine h dx _ hnd dne (I.un (t' := tk') Un1 fun b o q => ?_)
  by_cases hb : b = a
  · subst hb
    rw [upd_same] at q
    cases q
    exact exo_ok hx
  · rw [upd_ne hb] at q
    by_cases hd : b = dx
    · subst hd
      rw [upd_same] at q
      cases q
      exact exd_ok hn (relO_put (fs := []) ry fun g => True.intro)
    · rw [upd_ne hd] at q
      exact (I.hok b o q).stay (fun c v hc z => k c v (by
          rcases hc with hc | hc
          · rw [hc]
            exact hb
          · exact at_ne e hc exo_own) z)
        (fun c hc => by rw [upd_ne (at_ne e hc exo_own), upd_ne (ne_of_none hc hnd)]; exact hc) (fun c xs hc => by rw [upd_ne (at_ne e hc exo_tup), upd_ne (ne_of_none hc hnd)]; exact hc)
/-- self.f = y, a further one -/
theorem ostX_old (T : OxC X.K b C) (I : Inv X pins σ H s) (e : H a = some (exo a C (some dx))) (ed : H dx = some (exd dx fs)) (hl : fs.length ≤ 900) (hno : PySem.W.findIn X.K (.ref C) f = some none) (ry : RelV y u)
    (h : ∀ s', Inv X pins σ (upd H dx (exd dx ((f, y) :: fs))) s' → Q () s') : wpAny (model X.prog X.w) A (setAttr (.ref a) f u) Q E s := by
  obtain ⟨nm, q, N, bs, bm, sn, sub, ab, col, dd, k0, k1, k2, k3, k5, hC, hbm⟩ := T.cls
  have hcl : PySem.W.clsIn X.K C = some { name := nm, bases := bs, mro := .ref C :: bm, ns := N, qualname := q, hasDict := true, slotNames := sn, subclasses := sub, abstract := ab, collection := col, hasDel := false } := by unfold PySem.W.clsIn; rw [hC] <;> rfl
  obtain ⟨t1, ho⟩ := exo_at I.hok e
  obtain ⟨mA, hns, rel⟩ := exd_at I.hok ed
  have hw := within_of rel
  obtain ⟨hp, g, d, t, os⟩ := s
  obtain ⟨oD, _, _, hoD, _, _⟩ := hns.count hw
  refine PySem.W.set_plain I.kIn (ox := { cls := .ref C, dict := some dx, data := .fields #[.ref t1, .none, .none, .none, .bool false, .none] }) (od := some oD) ⟨ho, rfl, rfl, hoD⟩ T.sa ?_
  refine PySem.ZEX.osaX_old (b := b) I.kIn ho hns hw (by rw [List.length_map]; omega) hcl (show PySem.ZEX.refsX b (.ref C :: bm) = true from hbm) rfl hno (fun h' tk' k hn => ?_)
  have hd : ∃ o, h'.get? dx = some o := by
    obtain ⟨o, _, _, e', _⟩ := hn
    exact ⟨o, e'⟩
  exact h _ (I.write (t' := tk') (x := dx) (e := dx) (o := exd dx ((f, y) :: fs)) (by rw [ed]; exact True.intro) (.inl rfl) k hd (exd_ok hn (relO_put ry rel)))
end
/-! ### readings and rules -/
/-- self.f = e -/
def tOsX (K : PySem.W.Frag) (f : Str) (to te : TE) : TS := fun D σ H => te σ H fun y H1 => to σ H1 fun x H2 => ∃ (a C : Addr) (b : Bool), x = .ref a ∧ OxC K b C ∧ PySem.W.findIn K (.ref C) f = some none ∧
  ((H2 a = some (exo a C none) ∧ ∀ dx, H2 dx = none → dx ≠ a → D.nx σ (upd (upd H2 dx (exd dx [(f, y)])) a (exo a C (some dx)))) ∨
    ∃ (dx : Addr) (fs : List (Str × V)), H2 a = some (exo a C (some dx)) ∧ H2 dx = some (exd dx fs) ∧ fs.length ≤ 900 ∧ D.nx σ (upd H2 dx (exd dx ((f, y) :: fs))))
/-- e.__class__.__name__ of an exception that is being made -/
def tCnm (K : PySem.W.Frag) (to : TE) : TE := fun σ H Q => to σ H fun x H1 => ∃ (a C : Addr) (nm : Str), x = .ref a ∧ H1 a = some (exo a C none) ∧ NmC K C nm ∧ Q (.str nm) H1
section
variable {X : Cx} {o e : Expr} {es : List Expr} {to te : TE} {ta : TA} {f : Str} {p p' p1 p2 pos : Pos}
theorem ps_osX (ho : PE X o to) (he : PE X e te) (hs : swapsWith e (some (.Attribute o f p')) pos.line X.env = pure false := by rfl) : PS X (.Assign [.Attribute o f p'] e pos) (tOsX X.K f to te) := by
  refine ⟨fun pins s σ H D I h => ?_⟩
  refine plainObj_wpAny_Assign_Attribute (thn (he.run pins s σ H _ I h) fun v s1 ⟨y, H1, I1, r1, q1⟩ => thn (ho.run pins s1 σ H1 _ I1 q1) fun u s2 ⟨x, H2, I2, r2, a, C, b, ex, T, hno, q⟩ => ?_) hs
  subst ex
  obtain rfl : u = Value.ref a := r2
  rcases q with ⟨ea, q⟩ | ⟨dx, fs, ea, ed, hl, q⟩
  · exact ostX_new T I2 ea hno r1 fun dx s' n ne J => ⟨σ, _, J, q dx n ne⟩
  · exact ostX_old T I2 ea ed hl hno r1 fun s' J => ⟨σ, _, J, q⟩
theorem pe_cnm (ho : PE X o to) (hb1 : attributeBase o "__class__" X.env (eval o X.env) = eval o X.env := by rfl)
    (hb2 : attributeBase (.Attribute o "__class__" p1) "__name__" X.env (eval (.Attribute o "__class__" p1) X.env) = eval (.Attribute o "__class__" p1) X.env := by rfl) :
    PE X (.Attribute (.Attribute o "__class__" p1) "__name__" p2) (tCnm X.K to) := by
  refine ⟨fun pins s σ H Q I h => ?_⟩
  refine attr_of hb2 (attr_of hb1 (thn (ho.run pins s σ H _ I h) fun u s1 ⟨x, H1, I1, r1, a, C, nm, ex, ea, T, q⟩ => ?_))
  subst ex
  obtain rfl : u = Value.ref a := r1
  obtain ⟨t1, hoe⟩ := exo_at I1.hok ea
  have J : PySem.W.InstAt s1.heap a ({ cls := .ref C, dict := none, data := .fields #[.ref t1, .none, .none, .none, .bool false, .none] } : Obj) C none := ⟨hoe, rfl, rfl, trivial⟩
  refine PySem.ZEX.class_getE I1.kIn J T.ga T.gg T.exC (PySem.W.findObj_dataE T.ic T.ca T.sp T.tk) T.ob ?_
  obtain ⟨tn, hn⟩ := T.nm
  refine PySem.ZEX.cls_name (s := { s1 with toks := s1.toks + 1 }) (I1.tok _).kIn T.st T.ty T.cn hn rfl fun u2 => ?_
  exact ⟨.str nm, H1, (I1.tok _).tok _, ⟨tn, rfl⟩, q⟩
end
/-! ### super().__init__(..) as a def's first statement -/
/-- a statement's reading where the running def is known -/
def PAt (X : Cx) (body : List Stmt) (st : Stmt) (t : TS) : Prop := ∀ (pins : List (Addr × Obj)) (s : Shared) (σ : St) (H : Hp) (D : Ends), Inv X pins σ H s → t D σ H → PySem.wpAt (model X.prog X.w) X.A (.func body X.env) (exec st X.env) (SP X pins D) X.xe s
/-- what of the running def super() asks -/
structure SupF (X : Cx) (sf : Str) (i j : Nat) : Prop where
  ks : X.env.kindOf "super" = some .globalImplicit
  kc : X.env.kindOf "__class__" = some .free
  kv : X.env.kindOf sf = some .local
  ni : X.N[i]? = some sf
  nj : X.N[j]? = some "__class__"
  mg : X.mg "super" = none
  fn : ∃ (f : Addr) (oc : Value) (od : Option Addr) (fd : FuncData) (osl : Array (Option Value)) (ar : Arg), X.env.func = some f ∧ X.K.lookup f = some ⟨oc, od, .func fd, osl⟩ ∧ (fd.params.posonlyargs ++ fd.params.args).head? = some ar ∧ ar.arg = sf
  cd : ∃ (cda : Addr) (oc : Value) (od : Option Addr) (vs : Array Value) (osl : Array (Option Value)) (file : Str) (tf : Tok), X.env.code = .ref cda ∧ X.K.lookup cda = some ⟨oc, od, .fields vs, osl⟩ ∧ vs[2]? = some (.str file tf) ∧ ((X.prog.main.file : Str) == file) = true
  top : (X.prog.main.scope.names.lookup ("super" : Str)).isSome = false
/-- what of the classes: the def stands in D, C is the object's -/
structure SupC (K : PySem.W.Frag) (C D : Addr) : Prop where
  st : PySem.W.nsIn K cStatics "thirdparty.any" = some none
  icC : PySem.W.isClsIn K C = true
  icD : PySem.W.isClsIn K D = true
  sub : PySem.W.mroIn K C (.ref D) = some true
section
variable {X : Cx} {pins : List (Addr × Obj)} {σ : St} {H : Hp} {s : Shared}
theorem cls_data {K : PySem.W.Frag} {D : Addr} (h : PySem.W.isClsIn K D = true) {hp : Heap} (X : K.In hp) : ∃ oD cd, hp.get? D = some oD ∧ oD.data = .cls cd ∧ PySem.W.clsIn K D = some cd := by
  have h' : (PySem.W.clsIn K D).isSome = true := h
  obtain ⟨cd, hcd⟩ := Option.isSome_iff_exists.mp h'
  refine (fun q => ?_) hcd
  unfold PySem.W.clsIn at q
  split at q
  · rename_i c d cd' sl ho
    cases q
    exact ⟨_, _, X _ _ ho, rfl, hcd⟩
  · cases q
/-- super() stands, of the object at a -/
theorem sup_base {body : List Stmt} {self : Str} {i j : Nat} {a C D : Addr} {d : Option Addr} {p0 p1 : Pos} {attr : Str} {whole : Sem Value} {Q : Value → Shared → Prop} (S : SupF X self i j) (T : SupC X.K C D) (I : Inv X pins σ H s)
    (hi : σ[i]? = some (some (.ref a))) (hj : σ[j]? = some (some (.ref D))) (ea : H a = some (exo a C d)) (hat : (attr == ("__class__" : Str)) = false)
    (h : ∀ so s', Inv X pins σ H s' → s'.heap.get? so = some (PySem.W.ks_superObj D a C) → Q (.ref so) s') :
    PySem.wpAt (model X.prog X.w) X.A (.func body X.env) (attributeBase (.Call (.Name "super" p0) [] [] p1) attr X.env whole) Q X.xe s := by
  obtain ⟨f, oc, od, fd, osl, ar, ef, lf, hp, rfl⟩ := S.fn
  obtain ⟨cda, occ, odc, vs, oslc, file, tf, ec, lc, hvs, hfile⟩ := S.cd
  obtain ⟨t1, hoe⟩ := exo_at I.hok ea
  obtain ⟨oD, cdD, hD1, hD2, _⟩ := cls_data T.icD I.kIn
  refine ks_wpAt_super_base (env := X.env) S.ks S.kc hat ef (I.kIn _ _ lf) rfl hp ec (I.kIn _ _ lc) rfl hvs hfile S.top ?_
  obtain ⟨mb, h1, h2⟩ := I.mod.blt
  refine PySem.W.ks_loadName_global I.ok.kind S.ks (Calls.loadGlobal_builtin (by rw [I.ok.glob]; exact I.mod.glob.keeps I.bk) S.mg (by rw [I.ok.blt]; exact h1.keeps I.bk) ((h2 _ (by decide)).trans (by decide +kernel)) ⟨rfl, ?_⟩)
  obtain ⟨m, hn, hl⟩ := I.loc
  obtain ⟨u1, r1, l1⟩ := hl j _ _ S.nj hj (.inr (.inr S.kc))
  obtain rfl : u1 = Value.ref D := r1
  obtain ⟨u2, r2, l2⟩ := hl i _ _ S.ni hi (.inl S.kv)
  obtain rfl : u2 = Value.ref a := r2
  rcases l1 with ⟨z, _⟩ | ⟨_, c, hc, hcell⟩
  · rw [S.kc] at z
    cases z
  refine wpAny_loadName_free I.ok.kind S.kc hc hcell ?_
  have hm : m ar.arg = some (.ref a) := by
    rcases l2 with ⟨_, hm⟩ | ⟨z, _⟩
    · exact hm
    · rcases z with z | z <;> rw [S.kv] at z <;> cases z
  refine wpAny_loadName_local I.ok.kind S.kv hn hm ?_
  obtain ⟨hh, g, dr, t, os⟩ := s
  refine ks_wpAny_isType_cls hD1 hD2 ⟨rfl, ?_⟩
  refine ks_wpAny_call_super hD1 hD2 hoe rfl (fun c z => nomatch z) (PySem.W.looks_mroIn I.kIn T.sub) (fun h' e k => ?_)
  exact h _ _ (I.kept (t' := t) k) e
/-- the mro's part -/
theorem sup_mro {K : PySem.W.Frag} {C D : Addr} {name : Str} {v : Option Value} (e : PySem.W.ks_superIn K C D name = some v) : ∃ cd, PySem.W.clsIn K C = some cd ∧ PySem.W.alongIn K name ((cd.mro.dropWhile (· != .ref D)).drop 1) = some v := by
  unfold PySem.W.ks_superIn at e
  obtain ⟨cd, h1, h2⟩ := Option.bind_eq_some_iff.mp e
  exact ⟨cd, h1, h2⟩
theorem looks_mro {K : PySem.W.Frag} {M : Model} {h : Heap} (X : K.In h) {C : Addr} {cd : ClassData} (hc : PySem.W.clsIn K C = some cd) : PySem.W.Looks M h (mroOf (.ref C)) cd.mro := (PySem.W.looks_clsIn X hc).andThen .now
theorem exo_ne {C : Addr} {a : Addr} {d : Option Addr} (I : Inv X pins σ H s) (ea : H a = some (exo a C d)) (hc : PySem.W.isClsIn X.K C = true) : a ≠ C := fun z => by
  obtain ⟨oD, cd, h1, h2, _⟩ := cls_data hc I.kIn
  obtain ⟨t1, hoe⟩ := exo_at I.hok ea
  rw [z, h1] at hoe
  cases hoe
  cases h2
/-- super().__init__(..) where it is the built-in one -/
def tSupB (K : PySem.W.Frag) (i j : Nat) (ta : TA) : TS := fun D σ H => ∃ (a C Dc : Addr) (b : Bool), σ[i]? = some (some (.ref a)) ∧ σ[j]? = some (some (.ref Dc)) ∧ H a = some (exo a C none) ∧ OxC K b C ∧ SupC K C Dc ∧
  PySem.W.ks_superIn K C Dc "__init__" = some (some (.builtin (PySem.ZEX.initIdX b))) ∧ PySem.W.subIn K (.ref C) (.type (PySem.ZEX.baseX b)) = some true ∧
  ta σ H fun vs H1 => vs.length ≤ 1000 ∧ H1 a = some (exo a C none) ∧ D.nx σ H1
theorem ps_supB {body : List Stmt} {self : Str} {i j : Nat} {e : Expr} {es : List Expr} {ta : TA} {p0 p1 p2 p3 p4 : Pos} {pl : Sem Bool} (S : SupF X self i j) (ha : PA X (e :: es) ta)
    (hi : interactive X.env = false := by rfl) (hs : swapsWith (.Call (.Attribute (.Call (.Name "super" p0) [] [] p1) "__init__" p2) (e :: es) [] p3) none p4.line X.env = pure false := by rfl)
    (he : eval (.Call (.Attribute (.Call (.Name "super" p0) [] [] p1) "__init__" p2) (e :: es) [] p3) X.env = (do
      let ov ← attributeBase (.Call (.Name "super" p0) [] [] p1) "__init__" X.env (eval (.Call (.Name "super" p0) [] [] p1) X.env)
      standAt p2.atName
      let (f, first) ← holding [ov] (getMethod ov "__init__" pl)
      callWith p3 f first (backTo p3 (starEach (e :: es) X.env)) []) := by rfl)
    (hst : starEach (e :: es) X.env = (false, eval e X.env) :: starEach es X.env := by rfl) (hpl : (backTo p3 (starEach es X.env)).any (·.1) = false := by rfl) :
    PAt X body (.Expr (.Call (.Attribute (.Call (.Name "super" p0) [] [] p1) "__init__" p2) (e :: es) [] p3) p4) (tSupB X.K i j ta) := by
  intro pins s σ H D I ⟨a, C, Dc, b, h1, h2, ea, T, TC, hm, hB, h⟩
  refine ks_wpAt_Expr_any ?_ hi hs
  refine ks_wpAt_MethodCall (pl := pl) ?_ he
  refine sup_base S TC I h1 h2 ea (by decide) fun so s1 I1 hso => ?_
  obtain ⟨cd, hc, hal⟩ := sup_mro hm
  obtain ⟨t1, hoe⟩ := exo_at I1.hok ea
  have J1 : PySem.W.InstAt s1.heap a ({ cls := .ref C, dict := none, data := .fields #[.ref t1, .none, .none, .none, .bool false, .none] } : Obj) C none := ⟨hoe, rfl, rfl, trivial⟩
  have hI : PySem.W.Looks (model X.prog X.w) s1.heap (isInstance (.ref a) (.type (PySem.ZEX.baseX b))) true := J1.type.andThen (PySem.W.looks_subIn I1.kIn hB)
  obtain ⟨hh, g, dr, t, os⟩ := s1
  refine PySem.W.kxs_getMethod (PySem.ZEX.kxsX b) hso (PySem.W.looks_opaque I1.kIn TC.st) (looks_mro I1.kIn hc) rfl I1.kIn hal hI (exo_ne I1 ea TC.icC) (by decide) ?_
  have I2 : Inv X ((hh.objs.size, PySem.W.kxs_mw (PySem.ZEX.initIdX b) a) :: pins) σ H ⟨hh.push (PySem.W.kxs_mw (PySem.ZEX.initIdX b) a), g, dr, t + 1, os⟩ :=
    pin_new (t' := t + 1) I1 (fun _ _ z => Heap.get?_push_of_some _ z) (Nat.le_refl _) (Heap.get?_push_size hh rfl) (fun v z => nomatch z)
  show wpAny _ _ (callWith p3 (.ref hh.objs.size) [] (backTo p3 (starEach (e :: es) X.env)) []) _ _ _
  have hrun := ha.run p3 _ _ σ H _ I2 h
  rw [hst] at hrun ⊢
  refine PySem.W.kxs_callWith (i := PySem.ZEX.initIdX b) (x := a) (by show (false || (backTo p3 (starEach es X.env)).any (·.1)) = false; rw [hpl]; rfl) ?_
  refine evalArgs_plain (thn hrun fun us s3 ⟨vs, H1, I3, rv, hz, ea3, q⟩ => ⟨pin_at I3, ?_⟩)
  obtain ⟨nm, qn, N, bs, bm, sn, sub, ab, col, dd, k0, k1, k2, k3, k5, hC, hbm⟩ := T.cls
  obtain ⟨t3, hoe3⟩ := exo_at I3.hok ea3
  obtain ⟨h3, g3, d3, tk3, os3⟩ := s3
  have hlen : us.length ≤ sizeLine := by
    rw [← Paired.length rv, sizeLine_eq]
    omega
  refine PySem.ZEX.super_call b (I3.kIn _ _ hC) hoe3 (pin_at I3) hlen fun h' t4 k hx => ?_
  have J := I3.write (t' := tk3) (x := a) (e := a) (o := exo a C none) (by rw [ea3]; exact True.intro) (.inl rfl) k ⟨_, hx⟩ (exo_ok hx)
  have eu : upd H1 a (exo a C none) = H1 := by
    funext b
    by_cases hb : b = a
    · rw [hb, upd_same, ea3]
    · rw [upd_ne hb]
  rw [eu] at J
  exact ⟨σ, H1, unpin J, q⟩
/-- super().__init__(..) where it is an own one -/
def tSupO (K : PySem.W.Frag) (i j : Nat) (f2 : Addr) (sp : Sp) (ta : TA) : TS := fun D σ H => ∃ (a C Dc : Addr), σ[i]? = some (some (.ref a)) ∧ σ[j]? = some (some (.ref Dc)) ∧ H a = some (exo a C none) ∧ SupC K C Dc ∧
  PySem.W.ks_superIn K C Dc "__init__" = some (some (.ref f2)) ∧ ta σ H fun vs H1 => sp (.ref a :: vs) H1 (fun _ H2 => D.nx σ H2) (fun _ _ _ => False)
theorem ps_supO {body : List Stmt} {self : Str} {i j : Nat} {e : Expr} {es : List Expr} {ta : TA} {p0 p1 p2 p3 p4 : Pos} {pl : Sem Bool} {CX : CXT} {k : Nat} {f2 : Addr} {sp : Sp} (S : SupF X self i j)
    (F : FnR X.prog X.w X.K X.mg X.base CX k f2 sp) (hr : Room k X.A) (hx : Passes CX X (fun _ _ _ => False)) (tf : PySem.W.typeIn X.K (.ref f2) = some (.type "function")) (ff : PySem.W.fnIn X.K f2 = true) (ha : PA X (e :: es) ta)
    (hi : interactive X.env = false := by rfl) (hs : swapsWith (.Call (.Attribute (.Call (.Name "super" p0) [] [] p1) "__init__" p2) (e :: es) [] p3) none p4.line X.env = pure false := by rfl)
    (he : eval (.Call (.Attribute (.Call (.Name "super" p0) [] [] p1) "__init__" p2) (e :: es) [] p3) X.env = (do
      let ov ← attributeBase (.Call (.Name "super" p0) [] [] p1) "__init__" X.env (eval (.Call (.Name "super" p0) [] [] p1) X.env)
      standAt p2.atName
      let (f, first) ← holding [ov] (getMethod ov "__init__" pl)
      callWith p3 f first (backTo p3 (starEach (e :: es) X.env)) []) := by rfl)
    (hst : starEach (e :: es) X.env = (false, eval e X.env) :: starEach es X.env := by rfl) (hpl : (backTo p3 (starEach es X.env)).any (·.1) = false := by rfl) :
    PAt X body (.Expr (.Call (.Attribute (.Call (.Name "super" p0) [] [] p1) "__init__" p2) (e :: es) [] p3) p4) (tSupO X.K i j f2 sp ta) := by
  intro pins s σ H D I ⟨a, C, Dc, h1, h2, ea, TC, hm, h⟩
  refine ks_wpAt_Expr_any ?_ hi hs
  refine ks_wpAt_MethodCall (pl := pl) ?_ he
  refine sup_base S TC I h1 h2 ea (by decide) fun so s1 I1 hso => ?_
  obtain ⟨cd, hc, hal⟩ := sup_mro hm
  obtain ⟨of, hof, hofc⟩ : ∃ of, s1.heap.get? f2 = some of ∧ of.cls = .type "function" := by
    have tf' : (X.K.lookup f2).map (·.cls) = some (.type "function") := tf
    cases z : X.K.lookup f2 with
    | none => rw [z] at tf'; cases tf'
    | some of => rw [z] at tf'; exact ⟨of, I1.kIn _ _ z, Option.some.inj tf'⟩
  have hb := base_none I1 (Nat.le_refl _)
  obtain ⟨hh, g, dr, t, os⟩ := s1
  refine ks_wpAny_getMethod_super hso (PySem.W.looks_opaque I1.kIn TC.st) (looks_mro I1.kIn hc) rfl I1.kIn hal hof hofc (exo_ne I1 ea TC.icC) (by decide) ?_
  have I2 : Inv X ((hh.objs.size, PySem.W.methodObj (.ref f2) (.ref a)) :: pins) σ H ⟨hh.push (PySem.W.methodObj (.ref f2) (.ref a)), g, dr, t + 1, os⟩ :=
    pin_new (t' := t + 1) I1 (fun _ _ z => Heap.get?_push_of_some _ z) (Nat.le_refl _) (Heap.get?_push_size hh rfl) (fun v z => nomatch z)
  show wpAny _ _ (callWith p3 (.ref hh.objs.size) [] (backTo p3 (starEach (e :: es) X.env)) []) _ _ _
  refine callwith_cm (C := a) (g := f2) I2 hb ff (thn (ha.run p3 _ _ σ H _ I2 h) fun us s3 ⟨vs, H1, I3, rv, q⟩ => ⟨⟨pin_at I3, I3.kIn⟩, ?_⟩) hst hpl
  have z := run_cm F hr hx I3 rv q
  exact thn z fun u s4 ⟨v, H2, I4, _, q4⟩ => ⟨σ, H2, I4, q4⟩
end
end L2

set_option Elab.async false
set_option linter.all false
set_option maxRecDepth 100000
set_option maxHeartbeats 4000000
namespace L2
open PySem PySem.Spec PySem.Calls PyProof.Rows NdefX ClX
/-! ### a method that says super(): its text, where it stands -/
def nfS (st : Stmt) (x qual : Str) (cc cda : Addr) : NF := ⟨x, qual, defArgs st, defBody st, defScope st, [("__class__", cc)], cda⟩
structure FunS (P : Program) (K : PySem.W.Frag) (mg : Str → Option Value) (x qual : Str) (st : Stmt) (f : Addr) (fd : FuncData) (cda cc Dc : Addr) : Prop where
  ex : ∃ (oc : Value) (od : Option Addr) (kV doc pm : Value) (an : Option Addr) (ct : Value) (osl : Array (Option Value)),
    fd = PySem.W.ksFn x qual (defArgs st) (defBody st) (defScope st) .none kV doc pm an (.ref cda) ct cc ∧ K.lookup f = some ⟨oc, od, .func fd, osl⟩ ∧ PySem.W.codeIn K (.ref cda) qual = true
  cell : ∃ (oc : Value) (od : Option Addr) (osl : Array (Option Value)), K.lookup cc = some ⟨oc, od, .cell (some (.ref Dc)), osl⟩
  code : ∃ (oc : Value) (od : Option Addr) (vs : Array Value) (osl : Array (Option Value)) (file : Str) (tf : Tok), K.lookup cda = some ⟨oc, od, .fields vs, osl⟩ ∧ vs[2]? = some (.str file tf) ∧ ((P.main.file : Str) == file) = true
  kp : PySem.W.keepIn K (.ref f) = true
  ty : PySem.W.typeIn K (.ref f) = some (.type "function")
  fn : PySem.W.fnIn K f = true
  top : (P.main.scope.names.lookup ("super" : Str)).isSome = false
  mg : mg "super" = none
section
variable {CX : CXT} {P : Program} {w : World} {K : PySem.W.Frag} {mg : Str → Option Value} {base : Heap} {N ps : List Str} {x qual : Str} {st : Stmt} {f cda cc Dc : Addr} {fd : FuncData} {A : Around} {outer : List Env} {s : Shared} {H : Hp} {E : XK} {k : Nat} {sp : Sp}
theorem FunS.sup (FS : FunS P K mg x qual st f fd cda cc Dc) {sf : Str} {i j : Nat} (h1 : (defScope st).names.lookup ("super" : Str) = some .globalImplicit) (h2 : (defScope st).names.lookup ("__class__" : Str) = some .free) (h3 : (defScope st).names.lookup sf = some .local)
    (hp : (((defArgs st).posonlyargs ++ (defArgs st).args).head?).map (·.arg) = some sf) (ni : N[i]? = some sf) (nj : N[j]? = some "__class__") : SupF (ncx CX P w K mg base N (nfS st x qual cc cda) f A outer s H E) sf i j := by
  obtain ⟨oc, od, kV, doc, pm, an, ct, osl, rfl, lk, _⟩ := FS.ex
  obtain ⟨ar, ha, he⟩ := Option.map_eq_some_iff.mp hp
  obtain ⟨occ, odc, vs, oslc, file, tf, lc, hv, hf⟩ := FS.code
  exact ⟨h1, h2, h3, ni, nj, FS.mg, ⟨f, oc, od, _, osl, ar, rfl, lk, ha, he⟩, ⟨cda, occ, odc, vs, oslc, file, tf, rfl, lc, hv, hf⟩, FS.top⟩
theorem FunS.binds (FS : FunS P K mg x qual st f fd cda cc Dc)
    (h : ∀ (kV doc pm : Value) (an : Option Addr) (ct : Value) (us : List Value), us.length = ps.length → bindArgs (PySem.W.ksFn x qual (defArgs st) (defBody st) (defScope st) .none kV doc pm an (.ref cda) ct cc) ⟨us, []⟩ = pure (ps.zip us)) : Binds K fd ps [] := by
  obtain ⟨oc, od, kV, doc, pm, an, ct, osl, rfl, lk, _⟩ := FS.ex
  exact .all (h kV doc pm an ct)
/-- THE RULE: such a method by its body, the first statement run where the def is known -/
theorem FunS.ok (FS : FunS P K mg x qual st f fd cda cc Dc) {st0 : Stmt} {rest : List Stmt} (hst : defBody st = st0 :: rest) (S : NScope N ps ["__class__"] (defScope st)) (len : ∀ vs H Q E, sp vs H Q E → vs.length = ps.length)
    (hbody : ∀ (A : Around) (outer : List Env) (s : Shared) (H : Hp) (vs : List V) (Q : VK) (E : XK), Room k (A.deeper (envF (nfS st x qual cc cda) f s.heap.objs.size)) → sp vs H Q E →
      ∃ t0 t1, PAt (ncx CX P w K mg base N (nfS st x qual cc cda) f A outer s H E) (st0 :: rest) st0 t0 ∧ PSs (ncx CX P w K mg base N (nfS st x qual cc cda) f A outer s H E) rest t1 ∧
        t0 { nx := fun σ H' => t1 { nx := fun _ H' => Q .non H', rt := Q } σ H', rt := Q } (startF N vs [some (.ref Dc)]) H) : FnOk P w K mg base CX (k + 1) f fd ps sp := by
  obtain ⟨oc, od, kV, doc, pm, an, ct, osl, rfl, lk, hcd⟩ := FS.ex
  obtain ⟨occ, odc, oslc, lc⟩ := FS.cell
  refine ⟨len, fun A outer s H args us vs Q E hr e0 hb r hsp => ?_⟩
  have hl := len _ _ _ _ hsp
  have KX : K.In s.heap := e0.mod.kin.keeps fun b o e => (e0.bs b o e).1
  have lim : s.heap.NoLimit := e0.mod.nolimit.keeps fun b o e => (e0.bs b o e).1
  have hcc : H cc = none := (e0.bs cc _ (e0.mod.kin _ _ lc)).2
  have C : CellsAt [(("__class__" : Str), cc)] ["__class__"] [some (.ref Dc)] s.heap H := by
    refine ⟨rfl, fun y c e => ?_, fun y z c e1 e2 => ?_, fun i y e => ?_⟩
    · have e' : ([(("__class__" : Str), cc)] : List (Str × Addr)).lookup y = some c := e
      rw [List.lookup_cons] at e'
      split at e'
      · cases e'
        exact ⟨hcc, some (.ref Dc), _, KX _ _ lc, rfl⟩
      · cases e'
    · have f1 := PySem.mem_of_lookup e1
      have f2 := PySem.mem_of_lookup e2
      rw [List.mem_singleton] at f1 f2
      cases f1
      cases f2
      rfl
    · have hi : i = 0 ∧ y = "__class__" := by
        cases i with
        | zero =>
          cases e
          exact ⟨rfl, rfl⟩
        | succ i => simp at e
      obtain ⟨rfl, rfl⟩ := hi
      refine ⟨cc, by simp [List.lookup], fun v ev => ?_⟩
      cases ev
      exact ⟨.ref Dc, rfl, _, KX _ _ lc, rfl⟩
  refine ks_codeAny_call_defAt (fd := PySem.W.ksFn x qual (defArgs st) (defBody st) (defScope st) .none kV doc pm an (.ref cda) ct cc) (body := defBody st) (binds := ps.zip us) hr.depth (KX _ _ lk) rfl lim (PySem.W.codeRec_of KX hcd) rfl hb S.nocell
    (fun y hy => S.par y.1 (List.of_mem_zip (show (y.1, y.2) ∈ ps.zip us from hy)).1) (fun h₁ hns kp => ?_) S.co S.gen S.kind
  show PySem.wpAt _ (A.deeper (envF (nfS st x qual cc cda) f s.heap.objs.size)) (.func (defBody st) (envF (nfS st x qual cc cda) f s.heap.objs.size)) (execs (defBody st) (envF (nfS st x qual cc cda) f s.heap.objs.size)) _ _ _
  obtain ⟨t0, t1, h0, h1, hq⟩ := hbody A outer s H vs Q E (hr.deeper _) hsp
  have I : Inv (ncx CX P w K mg base N (nfS st x qual cc cda) f A outer s H E) [] (startF N vs [some (.ref Dc)]) H { s with heap := h₁, toks := s.toks + (ps.zip us).length } := inv_startN (F := nfS st x qual cc cda) S hr.hd e0 hl r C hns kp
  have fin : ∀ {s' : Shared} {σ' : L2.St} {H' : Hp} {v : V} {u : Value}, Inv (ncx CX P w K mg base N (nfS st x qual cc cda) f A outer s H E) [] σ' H' s' → L2.RelV v u → Q v H' → CE outer P w H s Q u s' :=
    fun {s' σ' H' v u} J rv q => ⟨v, H', J.os, J.bare, J.base, J.hok, rv, q⟩
  have key : ∀ (fl : Flow) (s' : Shared), SP (ncx CX P w K mg base N (nfS st x qual cc cda) f A outer s H E) [] { nx := fun _ H' => Q .non H', rt := Q } fl s' → CR CX outer P w H s Q E (.ok (.ret (match fl with | .ret v => v | _ => .none))) s' := fun fl s' hs => by
    cases fl with
    | ret u =>
      obtain ⟨v, σ', H', J, rv, q⟩ := hs
      exact fin J rv q
    | next =>
      obtain ⟨σ', H', J, q⟩ := hs
      exact fin (v := V.non) (u := Value.none) J rfl q
    | brk =>
      obtain ⟨_, _, _, q⟩ := hs
      exact False.elim q
    | cont =>
      obtain ⟨_, _, _, q⟩ := hs
      exact False.elim q
  rw [hst]
  refine ks_wpAt_execs_cons (ks_wpAt_mono (h0 [] _ _ H _ I hq) (fun fl s' hs => ?_) fun e s' hs => hs)
  cases fl with
  | next =>
    obtain ⟨σ', H', J, q⟩ := hs
    exact wpAt_of_wpAny (wpAny_mono (h1.run [] s' σ' H' _ J q) key fun e s' hs => hs)
  | ret u =>
    obtain ⟨v, σ', H', J, rv, q⟩ := hs
    exact fin J rv q
  | brk =>
    obtain ⟨_, _, _, q⟩ := hs
    exact False.elim q
  | cont =>
    obtain ⟨_, _, _, q⟩ := hs
    exact False.elim q
end
/-! ### making such an exception -/
section
variable {X : Cx} {e : Expr} {es : List Expr} {ta : TA} {p pos : Pos}
theorem pmk_ox {CX : CXT} {x : Str} {b : Bool} {C fI : Addr} {k : Nat} {fd : FuncData} {ps : List Str} {sp : Sp} {ds : List Value} {dvs : List V} (T : OxC X.K b C) (iC : PySem.W.findIn X.K (.ref C) "__init__" = some (some (.ref fI))) (tI : PySem.W.typeIn X.K (.ref fI) = some (.type "function"))
    (F1 : FnOk X.prog X.w X.K X.mg X.base CX k fI fd ps sp) (hr : Room (k + 1) X.A) (hb : Binds X.K fd ps ds) (hd : Vals dvs ds) (hx : Passes CX X (fun _ _ _ => False)) (hg : Gl X x) (hm : X.mg x = some (.ref C)) (ha : PA X (e :: es) ta)
    (hdb : (x == ("__debug__" : Str)) = false := by decide) (he : starEach (e :: es) X.env = (false, eval e X.env) :: starEach es X.env := by rfl) (hpl : (backTo pos (starEach es X.env)).any (·.1) = false := by rfl) :
    PMk X (.Call (.Name x p) (e :: es) [] pos) (tMkO C sp dvs ta) := by
  intro pins s σ H Q I h
  obtain ⟨nm, q, N, bs, bm, sn, sub, ab, col, dd, k0, k1, k2, k3, k5, hC, hbm⟩ := T.cls
  refine wpAny_Call_Name_kw (ld_glob I hg hm ?_ hdb)
  refine PySem.W.callWith_K (h₀ := X.base) I.ok.mod.kin T.kC (thn (ha.run pos pins s σ H _ I h) fun us s1 ⟨vs, H1, I1, r1, hz, q1⟩ => ⟨I1.kIn, ?_⟩) he hpl
  show wpAny _ _ (call (.ref C) us) _ _ _
  obtain ⟨hp, g, dr, tk, os⟩ := s1
  have hsz : hp.objs.size ≤ hp.objs.size + 1 := Nat.le_succ _
  have hn : H1 (hp.objs.size + 1) = none := I1.hok.fresh hsz
  have hq := q1 (hp.objs.size + 1) hn
  have kk : ∀ b o, hp.get? b = some o → ((hp.push (PySem.W.kdv_tup us)).push (PySem.HandSPX.excO C hp.objs.size)).get? b = some o := fun b o e => Heap.get?_push_of_some _ (Heap.get?_push_of_some _ e)
  have hget : ((hp.push (PySem.W.kdv_tup us)).push (PySem.HandSPX.excO C hp.objs.size)).get? (hp.objs.size + 1) = some (PySem.HandSPX.excO C hp.objs.size) := by heap_get
  have I2 : Inv X pins σ (upd H1 (hp.objs.size + 1) (exo (hp.objs.size + 1) C none)) ⟨(hp.push (PySem.W.kdv_tup us)).push (PySem.HandSPX.excO C hp.objs.size), g, dr, tk, os⟩ :=
    I1.laid (t' := tk) (a := hp.objs.size + 1) (o := exo (hp.objs.size + 1) C none) (h' := (hp.push (PySem.W.kdv_tup us)).push (PySem.HandSPX.excO C hp.objs.size)) kk hsz (exo_ok hget)
  have r2 : Vals (V.ref (hp.objs.size + 1) :: (vs ++ dvs)) (Value.ref (hp.objs.size + 1) :: (us ++ ds)) := .cons rfl (r1.append hd)
  have hl : (Value.ref (hp.objs.size + 1) :: us ++ ds).length = ps.length := by
    have e := r2.length
    rw [F1.len _ _ _ _ hq] at e
    exact e.symm
  have hus : us.length ≤ sizeLine := by
    rw [← Paired.length r1, sizeLine_eq]
    omega
  refine wpAny_call (PySem.ZEX.callB b hbm (I1.kIn _ _ hC) (PySem.W.looks_findIn I1.kIn iC) (fun self => PySem.W.bind_fn I1.kIn self tI) hus
    (codeAny_mono (F1.run _ X.stack _ _ ⟨Value.ref (hp.objs.size + 1) :: us, []⟩ (Value.ref (hp.objs.size + 1) :: (us ++ ds)) _ _ (fun _ _ _ => False) (hr.make C us []) (I2.env0.make C us []) (hb _ (Value.ref (hp.objs.size + 1) :: us) I2.kIn hl) r2 hq) fun r s' hq' => ?_))
  cases r with
  | error er => exact hx pins σ _ _ er s' I2 hq'
  | ok fl =>
    cases fl with
    | ret u =>
      obtain ⟨v, H2, os2, bare2, un2, hok2, rv, ev, d, fs, ea, ed, hd1, q2⟩ := hq'
      subst ev
      obtain ⟨h2, g2, d2, t2, os'⟩ := s'
      exact ⟨rv, mk_end (raises_own T.exC T.tyC) I1 hsz kk un2 hok2 os2 bare2 ea ed hd1 q2⟩
    | next => exact False.elim hq'
    | brk => exact False.elim hq'
    | cont => exact False.elim hq'
/-- the heap behind the making -/
theorem mk_heap {H : Hp} {a d : Addr} {o : HO} {u : HO} {v : HO} (ha : H a = none) (hd : d ≠ a) : upd (del (upd (upd (upd H a o) d u) a v) a) d w = upd H d w := by
  funext b
  by_cases hb : b = d
  · rw [hb, upd_same, upd_same]
  · rw [upd_ne hb, upd_ne hb]
    by_cases hc : b = a
    · rw [hc, del_same, ha]
    · rw [del_ne hc, upd_ne hc, upd_ne hb, upd_ne hc]
end
/-! ### the promises of the three kinds of __init__ -/
structure PkC (K : PySem.W.Frag) (b : Bool) (Dc C : Addr) (nm : Str) : Prop where
  ox : OxC K b C
  nc : NmC K C nm
  sc : SupC K C Dc
  si : PySem.W.ks_superIn K C Dc "__init__" = some (some (.builtin (PySem.ZEX.initIdX b)))
  sb : PySem.W.subIn K (.ref C) (.type (PySem.ZEX.baseX b)) = some true
  no : PySem.W.findIn K (.ref C) "called" = some none
/-- __init__(self, reason): super().__init__(reason), self.called = .. -/
def spPike (K : PySem.W.Frag) (Dc : Addr) : Sp := fun vs H Q _ => ∃ (a C : Addr) (nm : Str) (v : V), vs = [.ref a, v] ∧ H a = some (exo a C none) ∧ PkC K false Dc C nm ∧
  ∀ dx, H dx = none → dx ≠ a → Q .non (upd (upd H dx (exd dx [("called", .str nm)])) a (exo a C (some dx)))
/-- __init__(self, number): super().__init__(f".."), self.called, self.number -/
def spMiss (K : PySem.W.Frag) (Dc : Addr) : Sp := fun vs H Q _ => ∃ (a C : Addr) (nm : Str) (n : Int), vs = [.ref a, .int n] ∧ H a = some (exo a C none) ∧ PkC K true Dc C nm ∧ PySem.W.findIn K (.ref C) "number" = some none ∧ n.natAbs.log2 < 1920 ∧
  ∀ dx, H dx = none → dx ≠ a → Q .non (upd (upd (upd H dx (exd dx [("called", .str nm)])) a (exo a C (some dx))) dx (exd dx [("number", .int n), ("called", .str nm)]))
/-- __init__(self, n): super().__init__(f"..") of PikeError, self.f = n -/
def spPlace (K : PySem.W.Frag) (Dp Dc : Addr) (fp : Addr) (f : Str) : Sp := fun vs H Q _ => ∃ (a C : Addr) (nm : Str) (n : Int), vs = [.ref a, .int n] ∧ H a = some (exo a C none) ∧ PkC K false Dp C nm ∧ SupC K C Dc ∧
  PySem.W.ks_superIn K C Dc "__init__" = some (some (.ref fp)) ∧ PySem.W.findIn K (.ref C) f = some none ∧ n.natAbs.log2 < 1920 ∧
  ∀ dx, H dx = none → dx ≠ a → Q .non (upd (upd (upd H dx (exd dx [("called", .str nm)])) a (exo a C (some dx))) dx (exd dx [(f, .int n), ("called", .str nm)]))
theorem nameIn_of {K : PySem.W.Frag} {nm q nm2 : Str} {C N : Addr} {bs bm sub : List Value} {hdct : Bool} {sn : List Str} {ab : Bool} {col : Option Bool} {dd : Option Addr} {k0 k1 k2 k3 k5 : Option Value} {newId : String} {t : Tok} (h : K.lookup C = some (excClassObj nm q C N bs bm hdct sn sub ab col dd k0 k1 k2 k3 k5 newId))
    (hk : k2 = some (.str nm2 t)) : PySem.ZEX.nameIn K C = some (.str nm2 t) := by
  unfold PySem.ZEX.nameIn
  rw [h]
  subst hk
  rfl
section
variable {K : PySem.W.Frag} {Dc C : Addr} {nm : Str} {H : Hp} {Q : XK}
/-- the wish behind C(v) -/
abbrev MkQ (C : Addr) (H : Hp) (Q : XK) (a : Addr) : VK := fun v H2 => v = .non ∧ ∃ (d : Addr) (fs : List (Str × V)), H2 a = some (exo a C (some d)) ∧ H2 d = some (exd d fs) ∧ H d = none ∧ Q (.ref C) (some d) (upd (del H2 a) d (.xd fs))
theorem use_pike {v : V} (T : PkC K false Dc C nm) (k : ∀ d, H d = none → Q (.ref C) (some d) (upd H d (.xd [("called", .str nm)]))) :
    [v].length ≤ 1000 ∧ ∀ a, H a = none → spPike K Dc (.ref a :: ([v] ++ [])) (upd H a (exo a C none)) (MkQ C H Q a) (fun _ _ _ => False) := by
  refine ⟨by show 1 ≤ 1000; decide, fun a ha => ⟨a, C, nm, v, rfl, upd_same, T, fun dx hdx hne => ⟨rfl, dx, [("called", .str nm)], upd_same, ?_, ?_, ?_⟩⟩⟩
  · rw [upd_ne hne, upd_same]
  · rw [upd_ne hne] at hdx
    exact hdx
  · rw [mk_heap ha hne]
    rw [upd_ne hne] at hdx
    exact k dx hdx
theorem mk_heap2 {H : Hp} {a d : Addr} {o u v u2 z : HO} (ha : H a = none) (hd : d ≠ a) : upd (del (upd (upd (upd (upd H a o) d u) a v) d u2) a) d z = upd H d z := by
  funext b
  by_cases hb : b = d
  · rw [hb, upd_same, upd_same]
  · rw [upd_ne hb, upd_ne hb]
    by_cases hc : b = a
    · rw [hc, del_same, ha]
    · rw [del_ne hc, upd_ne hb, upd_ne hc, upd_ne hb, upd_ne hc]
theorem use_miss {n : Int} (T : PkC K true Dc C nm) (hno : PySem.W.findIn K (.ref C) "number" = some none) (hz : n.natAbs.log2 < 1920) (k : ∀ d, H d = none → Q (.ref C) (some d) (upd H d (.xd [("number", .int n), ("called", .str nm)]))) :
    [V.int n].length ≤ 1000 ∧ ∀ a, H a = none → spMiss K Dc (.ref a :: ([V.int n] ++ [])) (upd H a (exo a C none)) (MkQ C H Q a) (fun _ _ _ => False) := by
  refine ⟨by show 1 ≤ 1000; decide, fun a ha => ⟨a, C, nm, n, rfl, upd_same, T, hno, hz, fun dx hdx hne => ⟨rfl, dx, [("number", .int n), ("called", .str nm)], ?_, upd_same, ?_, ?_⟩⟩⟩
  · rw [upd_ne hne.symm, upd_same]
  · rw [upd_ne hne] at hdx
    exact hdx
  · rw [mk_heap2 ha hne]
    rw [upd_ne hne] at hdx
    exact k dx hdx
theorem use_place {Dp fp : Addr} {f : Str} {n : Int} (T : PkC K false Dp C nm) (sc : SupC K C Dc) (so : PySem.W.ks_superIn K C Dc "__init__" = some (some (.ref fp))) (hno : PySem.W.findIn K (.ref C) f = some none) (hz : n.natAbs.log2 < 1920)
    (k : ∀ d, H d = none → Q (.ref C) (some d) (upd H d (.xd [(f, .int n), ("called", .str nm)]))) :
    [V.int n].length ≤ 1000 ∧ ∀ a, H a = none → spPlace K Dp Dc fp f (.ref a :: ([V.int n] ++ [])) (upd H a (exo a C none)) (MkQ C H Q a) (fun _ _ _ => False) := by
  refine ⟨by show 1 ≤ 1000; decide, fun a ha => ⟨a, C, nm, n, rfl, upd_same, T, sc, so, hno, hz, fun dx hdx hne => ⟨rfl, dx, [(f, .int n), ("called", .str nm)], ?_, upd_same, ?_, ?_⟩⟩⟩
  · rw [upd_ne hne.symm, upd_same]
  · rw [upd_ne hne] at hdx
    exact hdx
  · rw [mk_heap2 ha hne]
    rw [upd_ne hne] at hdx
    exact k dx hdx
end
theorem log_small {n : Int} (h1 : -(2 ^ 200) ≤ n) (h2 : n ≤ 2 ^ 200) : n.natAbs.log2 < 1920 := by
  have h3 : n.natAbs ≤ 2 ^ 200 := by omega
  by_cases h0 : n.natAbs = 0
  · rw [h0]
    decide
  · rw [Nat.log2_lt h0]
    exact Nat.lt_of_le_of_lt h3 (Nat.pow_lt_pow_right (by decide) (by decide))
end L2

set_option Elab.async false
set_option linter.all false
set_option maxRecDepth 100000
set_option maxHeartbeats 4000000
/-! several except clauses, with names and without -/
namespace L2
open PySem PySem.Spec PySem.Calls PyProof.Rows
abbrev TsX := Addr → Value → Option Addr → TS
/-- what stands behind a suite that had a name -/
abbrev Ends.unnamed (D : Ends) (i : Nat) : Ends := { nx := fun σ H => D.nx (σ.set i none) H, rt := D.rt, bk := fun σ H => D.bk (σ.set i none) H, ct := fun σ H => D.ct (σ.set i none) H }
def wMix (K : PySem.W.Frag) (Wout : WX) (D : Ends) : List (Value × Option Nat × TsX) → WX
  | [] => Wout
  | (c, oi, ts) :: r => fun cls d σ H => ∃ b, PySem.W.exmOne K cls c = some b ∧
      (b = true → ∀ a, H a = none → match oi with | none => ts a cls d D σ H | some i => ts a cls d (D.unnamed i) (σ.set i (some (.ref a))) H) ∧ (b = false → wMix K Wout D r cls d σ H)
/-- an exception that was caught, ahead of the clauses -/
structure Air (X : Cx) (pins : List (Addr × Obj)) (σ : St) (H : Hp) (sI : Shared) (B : Heap) (a : Addr) (cls : Value) (d : Option Addr) (s : Shared) : Prop where
  inv : Inv X pins σ H sI
  nb : ∀ b o, sI.heap.get? b = some o → b ∉ frs X.stack → B.get? b = some o
  up : sI.heap.UpToSlots s.heap
  fl : HandSPX.FlyingZ B (X.env :: X.outer) a (Zc cls d) s.heap
  na : H a = none
  os : s.os = sI.os
  ag : AllBare s.gens
section
variable {X : Cx} {pins : List (Addr × Obj)} {σ : St} {H : Hp} {sI s : Shared} {B : Heap} {a : Addr} {cls : Value} {d : Option Addr} {D : Ends} {Wout : WX}
theorem Air.land (C : Air X pins σ H sI B a cls d s) : Inv X pins σ H s := C.inv.landed C.nb C.fl.1 C.up C.os C.ag
theorem Air.off (C : Air X pins σ H sI B a cls d s) (hf : X.env.frame = some X.env.locals) : a ≠ X.env.locals ∧ a ∉ X.fs := by
  obtain ⟨oe, vs, he, _, hd⟩ := C.fl.there
  have no : a ∉ frs (X.env :: X.outer) := fun hm => by
    obtain ⟨_, o, e, q⟩ := C.fl.2.2.1.mem hm
    cases he.symm.trans e
    exact q _ hd
  exact ⟨fun z => no (List.mem_filterMap.mpr ⟨X.env, List.mem_cons_self, by rw [hf, z]⟩), fun hm => by
    obtain ⟨e, h1, h2⟩ := List.mem_filterMap.mp hm
    exact no (List.mem_filterMap.mpr ⟨e, List.mem_cons_of_mem _ h1, h2⟩)⟩
/-- in a suite -/
theorem Air.in_ (C : Air X pins σ H sI B a cls d s) (hf : X.env.frame = some X.env.locals) : ∃ oe, Zc cls d oe ∧ (∃ vs, oe.data = .fields vs) ∧ s.heap.get? a = some oe ∧ Inv (X.suite a ((a, oe) :: (X.pn ++ pins))) [] σ H s := by
  obtain ⟨oe, vs, he, hz, hd⟩ := C.fl.there
  exact ⟨oe, hz, ⟨vs, hd⟩, he, C.land.suite he hd C.na (C.off hf).1 (C.off hf).2⟩
/-- no clause is left: it goes on -/
theorem Air.out (C : Air X pins σ H sI B a cls d s) (hs : X.stack = X.env :: X.outer) (hf : X.env.frame = some X.env.locals) (tk : Takes X Wout) (w : Wout cls d σ H) : wpAny (model X.prog X.w) X.A (handleBy (.ref a) X.env []) (SP X pins D) X.xe s := by
  refine wpAny_handleBy_nil ?_
  have fl := C.fl
  obtain ⟨_, _, _, oe, vs, T, oT, ts', he, hz, hd, h1, hr⟩ := id fl
  have go : wpAny (model X.prog X.w) X.A (setFlight (.ref a) X.env.frame) (fun _ s4 => wpAny (model X.prog X.w) X.A (throw (.ref a) : Sem Flow) (SP X pins D) X.xe s4) X.xe s := by
    rw [hf]
    refine HandSPX.setFlight_upZ fl fun h4 hh4 up4 => wpAny_throw (tk _ _ ?_)
    exact ⟨a, B, sI, pins, σ, H, cls, d, rfl, C.inv, C.nb, C.up.trans up4, .inr (.inr (by rw [hs]; exact hh4)), C.na, C.os, C.ag, w⟩
  unfold PySem.passOn
  refine wpAny_bind (wpAny_field he hd h1 ?_)
  rw [if_neg (show ¬ ((Value.ref T == Value.none) = true) from by simp)]
  first
    | exact wpAny_bind (wpAny_pure (wpAny_bind go))
    | exact wpAny_bind go
/-- a clause's test -/
theorem Air.asks (C : Air X pins σ H sI B a cls d s) (hf : X.env.frame = some X.env.locals) {x : Str} {c : Value} {np : Pos} {b : Bool} {R : Bool → Shared → Prop} {E : Value → Shared → Prop} (hc : Names X x c) (hb : PySem.W.exmOne X.K cls c = some b) (k : R b s) :
    wpAny (model X.prog X.w) (X.A.mark (some (.ref a))) (eval (.Name x np) X.env) (fun t s1 => wpAny (model X.prog X.w) (X.A.mark (some (.ref a))) (excMatches (.ref a) t) R E s1) E s := by
  obtain ⟨oe, hz, _, he, S⟩ := C.in_ hf
  have LT : PySem.W.Looks (model X.prog X.w) s.heap (typeOf (.ref a)) cls := fun A Q E s k q => wpAny_typeOf_ref (k _ _ he) (by rw [hz.1]; exact q)
  have LM := PySem.W.exm_one (M := model X.prog X.w) C.land.kIn LT hb
  obtain ⟨hg, hdb, hm | ⟨hm, hv, hn⟩⟩ := hc
  · exact ld_glob (X := X.suite a ((a, oe) :: (X.pn ++ pins))) S hg hm (LM.here k) hdb
  · exact ld_blt (X := X.suite a ((a, oe) :: (X.pn ++ pins))) S hg hm hv (LM.here k) hn hdb
end
inductive HdsM (X : Cx) : List ExceptHandler → List (Value × Option Nat × TsX) → Prop
  | nil : HdsM X [] []
  | cons {x : Str} {c : Value} {ts : TsX} {b₀ : Stmt} {suite : List Stmt} {np p' : Pos} {hds : List ExceptHandler} {l : List (Value × Option Nat × TsX)} : Names X x c →
      (∀ (a : Addr) (oe : Obj) (cls : Value) (d : Option Addr) (pn : List (Addr × Obj)), Zc cls d oe → (∃ vs, oe.data = .fields vs) → PSs (X.suite a ((a, oe) :: pn)) (b₀ :: suite) (ts a cls d)) → HdsM X hds l →
      HdsM X (.ExceptHandler (some (.Name x np)) none (b₀ :: suite) p' :: hds) ((c, none, ts) :: l)
  | as {x n : Str} {c : Value} {i : Nat} {ts : TsX} {b₀ : Stmt} {suite : List Stmt} {np p' : Pos} {hds : List ExceptHandler} {l : List (Value × Option Nat × TsX)} : X.N[i]? = some n → X.env.kindOf n = some .local → Names X x c →
      (∀ (a : Addr) (oe : Obj) (cls : Value) (d : Option Addr) (pn : List (Addr × Obj)), Zc cls d oe → (∃ vs, oe.data = .fields vs) → PSs (X.suite a ((a, oe) :: pn)) (b₀ :: suite) (ts a cls d)) → HdsM X hds l →
      HdsM X (.ExceptHandler (some (.Name x np)) (some n) (b₀ :: suite) p' :: hds) ((c, some i, ts) :: l)
section
variable {X : Cx} {pins : List (Addr × Obj)} {σ : St} {H : Hp} {sI s : Shared} {B : Heap} {a : Addr} {cls : Value} {d : Option Addr} {D : Ends} {Wout : WX}
theorem Air.clauses (C : Air X pins σ H sI B a cls d s) (hs : X.stack = X.env :: X.outer) (hf : X.env.frame = some X.env.locals) (hN : X.N.Nodup) (tk : Takes X Wout) {hds : List ExceptHandler} {l : List (Value × Option Nat × TsX)} (hk : HdsM X hds l) :
    wMix X.K Wout D l cls d σ H → wpAny (model X.prog X.w) X.A (handleBy (.ref a) X.env hds) (SP X pins D) X.xe s := by
  have ok := C.inv.ok
  induction hk with
  | nil => exact fun w => C.out hs hf tk w
  | @cons x c ts b₀ suite np p' hds l hc hsu r ih =>
    rintro ⟨b, hb, hy, hn⟩
    refine wpAny_handleBy_cons (codeAny_handlers_test (C.asks hf hc hb ?_)) (by intro q; cases q)
    cases b with
    | false => exact ih (hn rfl)
    | true =>
      refine codeAny_handlers_suite (HandSPX.lands_againZ C.fl fun h4 fl4 up4 => ?_)
      have C4 : Air X pins σ H sI B a cls d { s with heap := h4 } := ⟨C.inv, C.nb, C.up.trans up4, fl4, C.na, C.os, C.ag⟩
      obtain ⟨oe, hz, hd, _, S⟩ := C4.in_ hf
      refine wpAny_mono ((hsu a oe cls d (X.pn ++ pins) hz hd).run [] _ _ H _ S (hy rfl a C.na)) (fun f s6 q => ?_) fun _ _ z => False.elim z
      cases f with
      | ret u =>
        obtain ⟨v, σ6, H6, S6, r6, q⟩ := q
        exact ⟨v, σ6, H6, S6.unsuite ok, r6, q⟩
      | _ =>
        obtain ⟨σ6, H6, S6, q⟩ := q
        exact ⟨σ6, H6, S6.unsuite ok, q⟩
  | @as x n c i ts b₀ suite np p' hds l hi hl hc hsu r ih =>
    rintro ⟨b, hb, hy, hn⟩
    refine wpAny_handleBy_cons (codeAny_handlers_test (C.asks hf hc hb ?_)) (by intro q; cases q)
    cases b with
    | false => exact ih (hn rfl)
    | true =>
      refine codeAny_handlers_suite_as (HandSPX.lands_againZ C.fl fun h4 fl4 up4 => ?_)
      have C4 : Air X pins σ H sI B a cls d { s with heap := h4 } := ⟨C.inv, C.nb, C.up.trans up4, fl4, C.na, C.os, C.ag⟩
      obtain ⟨oe, hz, hd, _, S⟩ := C4.in_ hf
      refine store_ok (X := X.suite a ((a, oe) :: (X.pn ++ pins))) (v := .ref a) S hN hi (.inl hl) rfl (fun s5 S5 => ?_) (.inr hl)
      refine wpAny_mono ((hsu a oe cls d (X.pn ++ pins) hz hd).run [] s5 _ H _ S5 (hy rfl a C.na)) (fun f s6 q => ?_) fun _ _ z => False.elim z
      cases f with
      | ret u =>
        obtain ⟨v, σ6, H6, S6, r6, q⟩ := q
        exact gone_ok (S6.unsuite ok) hN hi hl fun s7 J7 => ⟨v, _, H6, J7, r6, q⟩
      | _ =>
        obtain ⟨σ6, H6, S6, q⟩ := q
        exact gone_ok (S6.unsuite ok) hN hi hl fun s7 J7 => ⟨_, H6, J7, q⟩
end
section
variable {X : Cx} {body : List Stmt} {h₀ : ExceptHandler} {hds : List ExceptHandler} {l : List (Value × Option Nat × TsX)} {pos : Pos} {tb : WX → TS} {Wout : WX}
theorem ps_try_mix (hs : X.stack = X.env :: X.outer) (hf : X.env.frame = some X.env.locals) (hN : X.N.Nodup) (tk : Takes X Wout)
    (hb : ∀ (W : WX) (pn : List (Addr × Obj)) (xe : Value → Shared → Prop), Takes (X.tr pn xe) W → PassesOwn (model X.prog X.w) X.A X.env xe → PSs (X.tr pn xe) body (tb W))
    (hh : HdsM X (h₀ :: hds) l) : PS X (.Try body (h₀ :: hds) [] [] pos) (fun D σ H => tb (wMix X.K Wout D l) D σ H) := by
  refine ⟨fun pins s σ H D I h => wpAny_Try_except ?_⟩
  have ok := I.ok
  have hfr : X.A.frames = some (X.env :: X.outer) := by rw [ok.frames, hs]
  refine wpAny_mono ((hb (wMix X.K Wout D l) (X.pn ++ pins) (fun e s₁ => wpAny (model X.prog X.w) X.A (noteFrame e X.env) (fun _ s₂ => wpAny (model X.prog X.w) X.A (setFlight e none) (fun _ s₃ =>
    wpAny (model X.prog X.w) X.A (handleBy e X.env (h₀ :: hds)) (SP X pins D) X.xe s₃) X.xe s₂) X.xe s₁) (fun u s' xx => ?_) PassesOwn.looking).run [] s σ H D (I.toTry _) h) (fun f s1 q => ?_) (fun e s1 he => he)
  · obtain ⟨a, B, sI, pins', σ', H', cls, d, rfl, J', nb, up, sky, na, os, ag, w⟩ := xx
    refine Sky.land (outer := X.outer) Zc.steady hfr hf (by rw [← hs]; exact sky) fun h3 fl3 up3 => ?_
    exact Air.clauses (s := { s' with heap := h3 }) ⟨J'.ofTry ok, nb, up.trans up3, fl3, na, os, ag⟩ hs hf hN tk hh w
  · cases f with
    | next =>
      obtain ⟨σ', H', J', q⟩ := q
      exact wpAny_execs_nil ⟨σ', H', J'.ofTry ok, q⟩
    | ret u =>
      obtain ⟨v, σ', H', J', r, q⟩ := q
      exact ⟨v, σ', H', J'.ofTry ok, r, q⟩
    | _ =>
      obtain ⟨σ', H', J', q⟩ := q
      exact ⟨σ', H', J'.ofTry ok, q⟩
end
/-- how the arguments bind where all are given -/
theorem binds_full {K : PySem.W.Frag} {fd : FuncData} {ps : List Str} (h : ∃ ds, Vals [] ds ∧ Binds K fd ps ds) : Binds K fd ps [] := by
  obtain ⟨ds, h1, h2⟩ := h
  cases h1
  exact h2
/-- a def's own wish about exceptions, handed to a def that it calls -/
theorem passes_up {X : Cx} {E : XK} {W : WX} (tk : Takes X W) (h : ∀ cls d σ H, E cls d H → W cls d σ H) : Passes (L2.CX X.prog X.w) X E := passes_call tk h
theorem exm_sub {K : PySem.W.Frag} {S R : Addr} {b : Bool} (h1 : PySem.W.subIn K (.ref S) (.type "BaseException") = some true) (h2 : PySem.W.isClsIn K S = true) (h3 : PySem.W.typeIn K (.ref S) = some (.type "type")) (h4 : PySem.W.subIn K (.ref R) (.ref S) = some b) :
    PySem.W.exmOne K (.ref R) (.ref S) = some b := by
  unfold PySem.W.exmOne
  rw [if_pos (by rw [h1]; rfl)]
  have e2 : ((PySem.W.clsIn K S).isSome && PySem.W.typeIn K (.ref S) == some (.type "type")) = true := by
    have e3 : (PySem.W.clsIn K S).isSome = true := h2
    rw [e3, h3]
    rfl
  show (if ((PySem.W.clsIn K S).isSome && PySem.W.typeIn K (.ref S) == some (.type "type")) = true then PySem.W.subIn K (.ref R) (.ref S) else none) = some b
  rw [if_pos e2, h4]
/-- one of two promises -/
def spX (sp bad : Sp) : Sp := fun vs H Q E => sp vs H Q E ∨ bad vs H Q E
/-- a number out of bounds -/
def spBad (lo hi : Int) (C : Addr) (fs : Int → List (Str × V)) : Sp := fun vs H _ E => ∃ n : Int, vs = [.int n] ∧ ¬ (lo ≤ n ∧ n ≤ hi) ∧ n.natAbs.log2 < 1920 ∧ ∀ d, H d = none → E (.ref C) (some d) (upd H d (.xd (fs n)))
section
variable {X : Cx} {CX : CXT} {k : Nat} {f : Addr} {fd : FuncData} {ps : List Str} {sp : Sp} {ds : List Value} {dvs : List V} {E : St → XK} {x : Str} {p pos : Pos} {e : Expr} {es : List Expr} {t : TA}
def tCallSD (sp : Sp) (dvs : List V) (E : St → XK) (t : TA) : TE := fun σ H Q => t σ H fun vs H1 => sp (vs ++ dvs) H1 Q (E σ)
/-- f(e, ..) in a try, the last arguments left out -/
theorem pe_callSD (F : FnOk X.prog X.w X.K X.mg X.base CX k f fd ps sp) (hr : Room k X.A) (hg : Gl X x) (hm : X.mg x = some (.ref f)) (hk : PySem.W.keepIn X.K (.ref f) = true) (hb : Binds X.K fd ps ds) (hd : Vals dvs ds) (hx : ∀ σ, PassesAt CX X σ (E σ))
    (ha : PA X (e :: es) t) (hdb : (x == ("__debug__" : Str)) = false := by decide) (he : starEach (e :: es) X.env = (false, eval e X.env) :: starEach es X.env := by rfl) (hpl : (backTo pos (starEach es X.env)).any (·.1) = false := by rfl) :
    PE X (.Call (.Name x p) (e :: es) [] pos) (tCallSD sp dvs E t) := by
  refine ⟨fun pins s σ H Q I h => ?_⟩
  refine wpAny_Call_Name_kw (ld_glob I hg hm ?_ hdb)
  refine PySem.W.callWith_K (h₀ := X.base) I.ok.mod.kin hk (thn (ha.run pos pins s σ H _ I h) fun us s1 ⟨vs, H1, I1, r, q⟩ => ⟨I1.kIn, ?_⟩) he hpl
  have r2 : Vals (vs ++ dvs) (us ++ ds) := r.append hd
  have hl : (us ++ ds).length = ps.length := by rw [← r2.length]; exact F.len _ _ _ _ q
  refine wpAny_call (codeAny_mono (F.run X.A X.stack s1 H1 ⟨us, []⟩ (us ++ ds) (vs ++ dvs) Q (E σ) hr I1.env0 (hb s1 us I1.kIn hl) r2 q) fun r s' hq => ?_)
  cases r with
  | error e => exact hx σ pins H1 s1 e s' I1 hq
  | ok fl =>
    cases fl with
    | ret u => exact I1.after hq
    | next => exact False.elim hq
    | brk => exact False.elim hq
    | cont => exact False.elim hq
end
end L2

set_option Elab.async false
set_option linter.all false
set_option maxRecDepth 100000
set_option maxHeartbeats 2000000
namespace Z
open PySem PySem.Spec PyProof.Rows L2
/-! sets of tuples of ints, of up to three hundred members -/
def M4 (m : Nat) : Prop := m = 7 ∨ m = 31 ∨ m = 127 ∨ m = 511
def orb : Nat → Nat → List Nat
  | 0, _ => []
  | f + 1, x => x :: orb f ((x * 5 + 1) % 512)
theorem orb_in : ∀ (f a x : Nat), x ∈ orb f (lcgN 511 a) → ∃ b, b < a + f ∧ lcgN 511 b = x
  | 0, a, x, h => by cases h
  | f + 1, a, x, h => by
    rcases List.mem_cons.mp h with e | h
    · exact ⟨a, by omega, e.symm⟩
    · obtain ⟨b, hb, e⟩ := orb_in f (a + 1) x h
      exact ⟨b, by omega, e⟩
theorem orb_all : ((List.range 512).all fun j => (orb 512 0).contains j) = true := by decide +kernel
theorem orb_end : lcgN 511 512 = 0 := by decide +kernel
theorem orb_add (k : Nat) : lcgN 511 (512 + k) = lcgN 511 k := by
  induction k with
  | zero => exact orb_end
  | succ k ih =>
    show (lcgN 511 (512 + k) * 5 + 1) % 512 = (lcgN 511 k * 5 + 1) % 512
    rw [ih]
theorem far4 {m : Nat} (hm : M4 m) {i j : Nat} (hi : i ≤ m) (hj : j ≤ m) : ∃ k, k ≤ m ∧ lcgI m i k = j := by
  rcases hm with rfl | rfl | rfl | rfl
  · exact lcgI_all (.inl rfl) hi hj
  · exact lcgI_all (.inr (.inl rfl)) hi hj
  · exact lcgI_all (.inr (.inr rfl)) hi hj
  · have got : ∀ x, x ≤ 511 → ∃ b, b < 512 ∧ lcgN 511 b = x := fun x hx => by
      have h := List.all_eq_true.mp orb_all x (List.mem_range.mpr (by omega))
      have h2 : x ∈ orb 512 0 := by simpa using h
      obtain ⟨b, hb, e⟩ := orb_in 512 0 x h2
      exact ⟨b, by omega, e⟩
    obtain ⟨a, ha, rfl⟩ := got i hi
    obtain ⟨b, hb, rfl⟩ := got j hj
    by_cases c : a ≤ b
    · exact ⟨b - a, by omega, by rw [lcgN_add, show a + (b - a) = b from by omega]⟩
    · exact ⟨512 + b - a, by omega, by rw [lcgN_add, show a + (512 + b - a) = 512 + b from by omega, orb_add]⟩
theorem run4 {m : Nat} (hm : M4 m) (h : Int) {j : Nat} (hj : j ≤ m) : ∃ n, n ≤ m + 12 ∧ runI m (SetTable.bits h) n = j := by
  obtain ⟨k, hk, e⟩ := far4 hm (runI_le m (SetTable.bits h) 12) hj
  rw [← runI_tail (bits_lt h)] at e
  exact ⟨12 + k, by omega, e⟩
theorem way4 (m : Nat) (h : Int) (k : Nat) : way m h k ≤ m := by
  have a : SetTable.bits h % (m + 1) ≤ m := by
    have := Nat.mod_lt (SetTable.bits h) (show 0 < m + 1 by omega)
    omega
  have b := runEnd_bd a
  have c : (runAt m (SetTable.bits h % (m + 1)) (SetTable.bits h)).j + (runAt m (SetTable.bits h % (m + 1)) (SetTable.bits h)).more ≤ m := by
    show SetTable.bits h % (m + 1) + (SetTable.runEnd m (SetTable.bits h % (m + 1)) - SetTable.bits h % (m + 1)) ≤ m
    omega
  exact Nat.le_trans (Nat.le_add_right _ _) (nth_in k _ c)
theorem off_le (m : Nat) : ∀ (n i b : Nat), off m i b n ≤ 10 * n
  | 0, _, _ => Nat.le_refl _
  | n + 1, i, b => by
    have h := off_le m n (SetTable.leap m i b).1 (SetTable.leap m i b).2
    have r : SetTable.runEnd m i - i ≤ 9 := by
      unfold SetTable.runEnd
      split <;> omega
    show (SetTable.runEnd m i - i + 1) + off m (SetTable.leap m i b).1 (SetTable.leap m i b).2 n ≤ _
    omega
abbrev offH (m : Nat) (h : Int) (n : Nat) : Nat := off m (SetTable.bits h % (m + 1)) (SetTable.bits h) n
/-- the first slot on a way of which p does not hold -/
theorem least4 {m : Nat} (hm : M4 m) (h : Int) (p : Nat → Prop) {j : Nat} (hj : j ≤ m) (hn : ¬ p j) : ∃ n K, n ≤ m + 12 ∧ K ≤ offH m h n ∧ ¬ p (way m h K) ∧ ∀ k, k < K → p (way m h k) := by
  obtain ⟨n, le, e⟩ := run4 hm h hj
  have e2 : way m h (offH m h n) = j := by
    show (nth m (runAt m (SetTable.bits h % (m + 1)) (SetTable.bits h)) (off m _ _ n)).j = j
    rw [nth_off, itL_run]
    exact e
  obtain ⟨K, a, b, c⟩ := st_least (p := fun k => ¬ p (way m h k)) (offH m h n) (by show ¬ p (way m h (offH m h n)); rw [e2]; exact hn)
  exact ⟨n, K, le, a, b, fun k hk => Classical.not_not.mp (c k hk)⟩
/-- a table in which each hash is found again -/
structure Tab4 (t : SetTable) (hs : List Int) : Prop where
  ris : Ris t.place.toList
  dum : t.dummies = #[]
  num : t.place.size = hs.length
  mas : M4 t.mask
  due : ∀ (i : Nat) (g : Int) (y : Nat), hs[i]? = some g → t.place.toList[i]? = some y → ∃ k, way t.mask g k = y ∧ ∀ q, q < k → way t.mask g q ∈ t.place.toList
theorem Tab4.hole {t : SetTable} {hs : List Int} (T : Tab4 t hs) (room : hs.length ≤ t.mask) (h : Int) : ∃ K, K < 10 * SetTable.turns t.mask ∧ way t.mask h K ∉ t.place.toList ∧ ∀ k, k < K → way t.mask h k ∈ t.place.toList := by
  obtain ⟨j, a, b⟩ := st_missing t.place.toList (t.mask + 1) (by rw [Array.length_toList, T.num]; omega)
  obtain ⟨n, K, c, d, e, f⟩ := least4 T.mas h (fun j => j ∈ t.place.toList) (Nat.le_of_lt_succ a) b
  have : offH t.mask h n ≤ 10 * n := off_le ..
  exact ⟨K, by unfold SetTable.turns; omega, e, f⟩
theorem Tab4.ahead {t : SetTable} {hs : List Int} (T : Tab4 t hs) {h : Int} {K i j : Nat} (free : way t.mask h K ∉ t.place.toList) (hi : hs[i]? = some h) (hj : t.place.toList[i]? = some j) : ∃ k, k < K ∧ way t.mask h k = j := by
  obtain ⟨k, e, z⟩ := T.due i h j hi hj
  refine ⟨k, ?_, e⟩
  by_cases c : k < K
  · exact c
  · exfalso
    by_cases d : k = K
    · subst d
      exact free (e ▸ List.mem_of_getElem? hj)
    · exact free (z K (by omega))
theorem Tab4.put {t : SetTable} {hs : List Int} (T : Tab4 t hs) {h : Int} {K : Nat} (free : way t.mask h K ∉ t.place.toList) (busy : ∀ k, k < K → way t.mask h k ∈ t.place.toList) :
    ∃ (t1 : SetTable) (p : Nat), t.put (way t.mask h K) = (t1, p) ∧ p ≤ hs.length ∧ Tab4 t1 (hs.take p ++ h :: hs.drop p) ∧ t1.mask = t.mask ∧ t1.led = t.led ∧ t1.plain = t.plain ∧ t1.fill = hs.length + 1 := by
  obtain ⟨j, ej⟩ : ∃ j, way t.mask h K = j := ⟨_, rfl⟩
  rw [ej] at free ⊢
  have cut := (below_cut T.ris j).1
  have sz : t.place.toList.length = hs.length := by rw [Array.length_toList, T.num]
  have nw : t.place[SetTable.below t.place j]? ≠ some j := fun e => free (List.mem_of_getElem? (by rw [Array.getElem?_toList]; exact e))
  have pl := put_place t j
  have ep : (t.put j).2 = SetTable.below t.place j := rfl
  have pp : (t.put j).2 ≤ t.place.toList.length := by rw [ep, Array.length_toList]; exact cut
  rw [← ep] at pl
  have keep : ∀ {x : Nat}, x ∈ t.place.toList → x ∈ (t.put j).1.place.toList := fun hx => by
    rw [pl]
    exact mem_ins.2 (.inr hx)
  have num : (t.put j).1.place.size = hs.length + 1 := by rw [← Array.length_toList, pl, len_ins _ pp, sz]
  refine ⟨(t.put j).1, (t.put j).2, rfl, by omega, ⟨ris_insert T.ris nw, put_dm T.dum j, by rw [len_ins _ (by omega), num], T.mas, fun i g y a b => ?_⟩, rfl, rfl, rfl, ?_⟩
  · rw [tins_get hs (by omega)] at a
    rw [pl, tins_get _ pp] at b
    show ∃ k, way t.mask g k = y ∧ ∀ q, q < k → way t.mask g q ∈ (t.put j).1.place.toList
    by_cases c : i < (t.put j).2
    · rw [if_pos c] at a b
      obtain ⟨k, e, z⟩ := T.due i g y a b
      exact ⟨k, e, fun q hq => keep (z q hq)⟩
    · rw [if_neg c] at a b
      by_cases d : i = (t.put j).2
      · rw [if_pos d] at a b
        cases a
        cases b
        exact ⟨K, ej, fun q hq => keep (busy q hq)⟩
      · rw [if_neg d] at a b
        obtain ⟨k, e, z⟩ := T.due _ g y a b
        exact ⟨k, e, fun q hq => keep (z q hq)⟩
  · show (t.put j).1.place.size + (t.put j).1.dummies.size = _
    rw [num, put_dm T.dum j]
    rfl
/-! the table laid anew -/
theorem own4 {m : Nat} (hm : M4 m) {dn : List Int} {ow : Array (Option Nat)} (W : Own m dn ow) (room : dn.length ≤ m) (h : Int) :
    ∃ j, SetTable.layClean.free m ow (SetTable.turns m) (SetTable.bits h % (m + 1)) (SetTable.bits h) = some j ∧ Own m (dn ++ [h]) (ow.setIfInBounds j (some dn.length)) := by
  obtain ⟨qs, ql, qi⟩ := W.ps
  obtain ⟨j0, lt0, no0⟩ := st_missing qs (m + 1) (by omega)
  have e0 : ¬ oAt ow j0 ≠ none := fun z => no0 (qi j0 (Nat.le_of_lt_succ lt0) z)
  obtain ⟨n, K, a, b, c, d⟩ := least4 hm h (fun j => oAt ow j ≠ none) (Nat.le_of_lt_succ lt0) e0
  have c : oAt ow (way m h K) = none := Classical.not_not.mp c
  have lo := way4 m h K
  have ls : way m h K < ow.size := by
    have := W.sz
    omega
  have some_ : ∀ {x : Option Nat}, x ≠ none → x.isNone = false := fun {x} z => by
    cases x with
    | none => exact absurd rfl z
    | some _ => rfl
  refine ⟨way m h K, free_spec m ow (SetTable.turns m) n _ _ K (by unfold SetTable.turns; omega) b (fun k hk => some_ (d k hk)) ?_, ?_⟩
  · show (oAt ow (way m h K)).isNone = true
    rw [c]
    rfl
  have here := oAt_set_self (some dn.length) ls
  have stay : ∀ {i : Nat}, oAt ow i ≠ none → oAt (ow.setIfInBounds (way m h K) (some dn.length)) i ≠ none := fun {i} hi => by
    by_cases z : i = way m h K
    · rw [z, here]
      exact fun q => nomatch q
    · rw [oAt_set_ne _ z]
      exact hi
  refine ⟨by rw [Array.size_setIfInBounds]; exact W.sz, fun j k hj e => ?_, fun k hk => ?_, ⟨way m h K :: qs, by simp [ql], fun j hj e => ?_⟩⟩
  · by_cases z : j = way m h K
    · rw [z, here] at e
      cases e
      exact ⟨h, K, by simp, z.symm, fun q hq => stay (d q hq)⟩
    · rw [oAt_set_ne _ z] at e
      obtain ⟨g, K2, a1, a2, a3⟩ := W.at_ j k hj e
      exact ⟨g, K2, by rw [List.getElem?_append_left (List.getElem?_eq_some_iff.mp a1).1]; exact a1, a2, fun q hq => stay (a3 q hq)⟩
  · rw [List.length_append, List.length_singleton] at hk
    by_cases z : k = dn.length
    · rw [z]
      exact ⟨_, lo, here⟩
    · obtain ⟨j, hj, e⟩ := W.all k (by omega)
      refine ⟨j, hj, ?_⟩
      rw [oAt_set_ne _ (fun q => by rw [q, c] at e; cases e)]
      exact e
  · by_cases z : j = way m h K
    · rw [z]
      exact List.mem_cons_self
    · rw [oAt_set_ne _ z] at e
      exact List.mem_cons_of_mem _ (qi j hj e)
theorem lay4 {m : Nat} (hm : M4 m) : ∀ (tl dn : List Int) (ow : Array (Option Nat)), Own m dn ow → dn.length + tl.length ≤ m → ∃ ow2 n, tl.foldl (stepF m) (some (ow, dn.length)) = some (ow2, n) ∧ Own m (dn ++ tl) ow2
  | [], dn, ow, W, _ => ⟨ow, _, rfl, by rw [List.append_nil]; exact W⟩
  | h :: tl, dn, ow, W, room => by
    have rl : dn.length + (tl.length + 1) ≤ m := room
    obtain ⟨j, e, W2⟩ := own4 hm W (by omega) h
    obtain ⟨ow2, n, f, W3⟩ := lay4 hm tl (dn ++ [h]) _ W2 (by simp; omega)
    rw [List.append_assoc] at W3
    refine ⟨ow2, n, ?_, W3⟩
    rw [List.foldl_cons, stepF_some e, ← f]
    simp
theorem relaid4 (t : SetTable) {hs : Array Int} {want M : Nat} (hw : SetTable.sizeAbove want - 1 = M) (hM : M4 M) (room : hs.size ≤ M) :
    ∃ t2 ord, t.relaid hs want = some (t2, ord) ∧ ord.toList.Perm (List.range hs.size) ∧ Tab4 t2 (ord.toList.map fun i => hs.getD i 0) ∧ t2.mask = M ∧ t2.led = t.led ∧ t2.plain = t.plain := by
  obtain ⟨ow, n, f, W⟩ := lay4 hM hs.toList [] _ (Own.init M) (by show 0 + hs.toList.length ≤ M; rw [Array.length_toList]; omega)
  rw [List.nil_append] at W
  have e : SetTable.layClean M hs = some ow := by
    rw [layClean_eq]
    have f2 : hs.toList.foldl (stepF M) (some (Array.replicate (M + 1) none, 0)) = some (ow, n) := f
    rw [f2]
    rfl
  have live := fun (j k : Nat) => mem_live (j := j) (k := k) W.sz
  obtain ⟨r1, r2⟩ := ris_live (fun j => ow.getD j none) (List.range (M + 1)) (by unfold Ris; first | exact List.pairwise_lt_range | exact List.pairwise_lt_range _)
  have r1 : Ris ((liveOf M ow).map (·.1)) := r1
  have full : (liveOf M ow).length = hs.size := by
    obtain ⟨qs, ql, qi⟩ := W.ps
    have nd1 : ((liveOf M ow).map (·.1)).Nodup := List.Pairwise.imp (fun q => Nat.ne_of_lt q) r1
    have up := nat_nodup_len ((liveOf M ow).map (·.1)) qs nd1 fun x hx => by
      obtain ⟨⟨y, k⟩, hq, rfl⟩ := List.mem_map.mp hx
      obtain ⟨b1, b2⟩ := (live y k).1 hq
      exact qi y b1 (by rw [b2]; exact fun z => nomatch z)
    have dn := nat_nodup_len (List.range hs.size) ((liveOf M ow).map (·.2)) List.nodup_range fun k hk => by
      obtain ⟨j, b1, b2⟩ := W.all k (by rw [Array.length_toList]; exact List.mem_range.mp hk)
      exact List.mem_map.mpr ⟨(j, k), (live j k).2 ⟨b1, b2⟩, rfl⟩
    rw [List.length_map, ql] at up
    have zz : hs.toList.length = hs.size := rfl
    rw [List.length_map, List.length_range] at dn
    omega
  refine ⟨tabOf t M ow, ((liveOf M ow).map (·.2)).toArray, by rw [relaid_eq, hw, e]; rfl, ?_, ⟨r1, rfl, ?_, hM, fun i g y a b => ?_⟩, rfl, rfl, rfl⟩
  · refine perm_range hs.size _ (by simpa using full) fun k hk => ?_
    obtain ⟨j, b1, b2⟩ := W.all k (by rw [Array.length_toList]; exact hk)
    exact List.mem_map.mpr ⟨(j, k), (live j k).2 ⟨b1, b2⟩, rfl⟩
  · show ((liveOf M ow).map (·.1)).toArray.size = _
    simp
  · have a : (((liveOf M ow).map (·.2)).map fun i => hs.getD i 0)[i]? = some g := a
    have b : ((liveOf M ow).map (·.1))[i]? = some y := b
    cases hq : (liveOf M ow)[i]? with
    | none =>
      rw [List.getElem?_map, hq] at b
      cases b
    | some q =>
      obtain ⟨z, k⟩ := q
      rw [List.getElem?_map, List.getElem?_map, hq] at a
      rw [List.getElem?_map, hq] at b
      cases b
      cases a
      obtain ⟨b1, b2⟩ := (live z k).1 (List.mem_of_getElem? hq)
      obtain ⟨g0, K, a1, a2, a3⟩ := W.at_ z k b1 b2
      have eg : hs.getD k 0 = g0 := by
        rw [Array.getD_eq_getD_getElem?, ← Array.getElem?_toList, a1]
        rfl
      refine ⟨K, ?_, fun q hq => ?_⟩
      · show way M (hs.getD k 0) K = z
        rw [eg]
        exact a2
      · show way M (hs.getD k 0) q ∈ (liveOf M ow).map (·.1)
        rw [eg]
        cases v : oAt ow (way M g0 q) with
        | none => exact absurd v (a3 q hq)
        | some k2 => exact List.mem_map.mpr ⟨(way M g0 q, k2), (live _ _).2 ⟨way4 .., v⟩, rfl⟩
theorem size_308 : SetTable.sizeAbove (SetTable.grown 77) = 512 := by decide +kernel
section
variable {P : Program} {w : World} {A : Around} {E : Value → Shared → Prop} {s : Shared}
/-- a set of tuples as it lies in memory -/
structure Set4 (P : Program) (w : World) (h : Heap) (a : Addr) (L : List (Addr × List Int)) (es : Array (Int × Value)) (ep : Nat) (t : SetTable) : Prop where
  obj : ∃ o, h.get? a = some o ∧ o.ExactSet ∧ o.data = .set es ep t
  row : es.toList = rowsOf P w L
  tab : Tab4 t (L.map fun p => thash P w p.2)
  one : (L.map (·.2)).Nodup
  all : ∀ p ∈ L, IsT P w h p.2 p.1
  pla : t.plain = true
  led : w.params.followText "set-order" = true ∨ t.led = true
  gap : L.length * 5 < t.mask * 3
  few : L.length < 300
variable {a : Addr} {L : List (Addr × List Int)} {es : Array (Int × Value)} {ep : Nat} {t : SetTable}
theorem rows_len {L : List (Addr × List Int)} {es : Array (Int × Value)} (h : es.toList = rowsOf P w L) : es.size = L.length := by
  have := congrArg List.length h
  unfold rowsOf at this
  simpa using this
theorem Set4.fit (R : Set4 P w s.heap a L es ep t) : t.fits es.size = true := by
  have n := R.tab.num
  have g := R.gap
  have l := rows_len R.row
  rw [List.length_map] at n
  unfold SetTable.fits SetTable.fill
  rw [R.tab.dum, n, l]
  simp
  omega
theorem Set4.solid (R : Set4 P w s.heap a L es ep t) : ¬ t.gaveWay = true := by
  unfold SetTable.gaveWay
  rcases R.tab.mas with e | e | e | e <;> rw [e] <;> decide
theorem Set4.entry (R : Set4 P w s.heap a L es ep t) {i : Nat} {p : Addr × List Int} (h : L[i]? = some p) : es[i]? = some (thash P w p.2, Value.ref p.1) := by
  rw [← Array.getElem?_toList, R.row]
  unfold rowsOf
  rw [List.getElem?_map, h]
  rfl
theorem bare_nth (m : Nat) : ∀ (n : Nat) (p : SetTable.Probe), p.dummy = none → (nth m p n).dummy = none
  | 0, _, h => h
  | n + 1, p, h => bare_nth m n (adv m p) (by unfold adv; split <;> exact h)
/-- a search, from its c-th step on -/
theorem seek4 (R : Set4 P w s.heap a L es ep t) {x : Addr} {k : List Int} (hx : IsT P w s.heap k x) (room : A.units < cLine) {g : Int} (hg : thash P w k = g) {K : Nat} (near : K < 10 * SetTable.turns t.mask)
    (free : way t.mask g K ∉ t.place.toList) (busy : ∀ c, c < K → way t.mask g c ∈ t.place.toList) {Q : SetFound → Shared → Prop}
    (yes : k ∈ L.map (·.2) → Q (.there none) s) (no : k ∉ L.map (·.2) → Q (.free (way t.mask g K) false) s) :
    ∀ (f c : Nat) (st : Option SetTable.Probe), st.getD (t.probeStart g) = nth t.mask (runAt t.mask (SetTable.bits g % (t.mask + 1)) (SetTable.bits g)) c → c ≤ K → K - c < f →
      (∀ (i : Nat) p, L[i]? = some p → p.2 = k → ∃ d, c ≤ d ∧ d < K ∧ t.place.toList[i]? = some (way t.mask g d)) → wpAny (model P w) A (setSearchFrom a (.ref x) g true f st) Q E s
  | 0, _, _, _, _, hf, _ => absurd hf (Nat.not_lt_zero _)
  | f + 1, c, st, hst, hc, hf, rest => by
    obtain ⟨o, go, gx, gd⟩ := R.obj
    generalize e0 : runAt t.mask (SetTable.bits g % (t.mask + 1)) (SetTable.bits g) = p0 at hst
    have wy : ∀ q, way t.mask g q = (nth t.mask p0 q).j := fun q => by rw [← e0]
    have sh : ∀ q, nth t.mask (nth t.mask p0 c) q = nth t.mask p0 (c + q) := fun q => (nth_add t.mask c _ q).symm
    have wq : ∀ q, (nth t.mask (nth t.mask p0 c) q).j = way t.mask g (c + q) := fun q => by rw [sh, wy]
    have spec := go_spec t R.tab.ris R.tab.dum (fun i => (es[i]?.map (·.1)).getD 0) g (10 * SetTable.turns t.mask) (K - c) (nth t.mask p0 c) (bare_nth t.mask c p0 (by rw [← e0]; rfl)) (by omega)
      (fun q hq => by rw [wq]; exact busy (c + q) (by omega)) (by rw [wq, show c + (K - c) = K from by omega]; exact free)
    have hv : ∀ (i : Nat) p, L[i]? = some p → (es[i]?.map (·.1)).getD 0 = thash P w p.2 := fun i p hp => by
      rw [R.entry hp]
      rfl
    rw [setSearchFrom_succ]
    refine wpAny_bind (wpAny_setState_of go gd R.fit ?_)
    dsimp only
    refine wp_if_neg R.solid ?_
    try refine wpAny_bind (wpAny_pure ?_)
    have eprobe : ∀ m, SetTable.probe.go t (fun i => (es[i]?.map (·.1)).getD 0) g (10 * SetTable.turns t.mask) (nth t.mask p0 c) = m → t.probe (fun i => (es[i]?.map (·.1)).getD 0) g (st.getD (t.probeStart g)) = m := fun m z => by
      rw [hst]
      exact z
    rcases spec with ⟨q, i, hq, hi, hh, before, hp⟩ | ⟨none_, hp⟩
    · rw [eprobe _ hp]
      dsimp only
      rw [wq] at hi ⊢
      have il : i < L.length := by
        have b1 := (List.getElem?_eq_some_iff.mp hi).1
        have b2 := R.tab.num
        rw [List.length_map] at b2
        rw [Array.length_toList] at b1
        omega
      obtain ⟨p, hLi⟩ : ∃ p, L[i]? = some p := ⟨_, List.getElem?_eq_getElem il⟩
      have pm := List.mem_of_getElem? hLi
      have live := slot_live R.tab.ris hi
      rw [sh]
      have tail : wpAny (model P w) A (searchRest a (.ref x) g true f es t (way t.mask g (c + q)) i (nth t.mask p0 (c + (q + 1)))) Q E s := by
        unfold searchRest
        rw [R.entry hLi]
        dsimp only
        refine wpAny_bind (wpAny_holding (wpAny_eqBool_tuple room (R.all p pm) hx ?_))
        refine wpAny_bind (wpAny_setState_of go gd R.fit ?_)
        dsimp only
        by_cases ke : p.2 = k
        · refine wp_if_pos (by simp [ke]) ?_
          exact wpAny_pure (yes (List.mem_map.mpr ⟨p, pm, ke⟩))
        · refine wp_if_neg (by simp [ke]) ?_
          try refine wpAny_bind (wpAny_pure ?_)
          rw [sameMem]
          dsimp only
          simp only [if_true, live, R.entry hLi]
          refine wpAny_bind (wpAny_isSame_ref_self (wpAny_bind (wpAny_pure ?_)))
          simp only [if_true]
          refine wp_if_neg (by simp [ke]) ?_
          refine seek4 R hx room hg near free busy yes no f (c + (q + 1)) _ (by rw [e0]; rfl) (by omega) (by omega) fun i1 p1 h1 k1 => ?_
          obtain ⟨d, d1, d2, d3⟩ := rest i1 p1 h1 k1
          refine ⟨d, ?_, d2, d3⟩
          by_cases z : d < c + q
          · exfalso
            refine before (d - c) i1 (by omega) (by rw [wq, show c + (d - c) = d from by omega]; exact d3) ?_
            show (es[i1]?.map (·.1)).getD 0 = g
            rw [hv i1 p1 h1, k1]
            exact hg
          · by_cases y : d = c + q
            · exfalso
              rw [y] at d3
              have live1 := slot_live R.tab.ris d3
              rw [live] at live1
              cases live1
              rw [hLi] at h1
              cases h1
              exact ke k1
            · omega
      by_cases hl : t.led = true
      · refine wp_if_neg (by simp [hl]) ?_
        try refine wpAny_bind (wpAny_pure ?_)
        exact tail
      · refine wp_if_pos (by simp [hl]) ?_
        refine wpAny_bind (seen_tup hx (fun y hy => ?_) ?_)
        · obtain ⟨e, he, ee⟩ := List.mem_map.mp hy
          have he1 : e ∈ es ∧ e.1 = g := by simpa using he
          have he2 : e ∈ es.toList := by simpa using he1.1
          rw [R.row] at he2
          obtain ⟨p2, hp2, e2⟩ := List.mem_map.mp he2
          exact ⟨p2.2, p2.1, by rw [← ee, ← e2], R.all p2 hp2⟩
        · refine wp_if_neg (by decide) ?_
          try refine wpAny_bind (wpAny_pure ?_)
          exact tail
    · rw [eprobe _ hp]
      dsimp only
      rw [wq, show c + (K - c) = K from by omega]
      refine wpAny_pure (no fun hm => ?_)
      obtain ⟨p1, h1, k1⟩ := List.mem_map.mp hm
      obtain ⟨i1, hi1⟩ := List.mem_iff_getElem?.mp h1
      obtain ⟨d, d1, d2, d3⟩ := rest i1 p1 hi1 k1
      refine none_ (d - c) i1 (by omega) (by rw [wq, show c + (d - c) = d from by omega]; exact d3) ?_
      show (es[i1]?.map (·.1)).getD 0 = g
      rw [hv i1 p1 hi1, k1]
      exact hg
theorem seek4_all (R : Set4 P w s.heap a L es ep t) {x : Addr} {k : List Int} (hx : IsT P w s.heap k x) (room : A.units < cLine) {Q : SetFound → Shared → Prop}
    (yes : k ∈ L.map (·.2) → Q (.there none) s)
    (no : ∀ K, k ∉ L.map (·.2) → way t.mask (thash P w k) K ∉ t.place.toList → (∀ c, c < K → way t.mask (thash P w k) c ∈ t.place.toList) → Q (.free (way t.mask (thash P w k) K) false) s) :
    wpAny (model P w) A (setSearch a (.ref x) (thash P w k) true) Q E s := by
  have g := R.gap
  obtain ⟨K, near, free, busy⟩ := R.tab.hole (by rw [List.length_map]; omega) (thash P w k)
  have big : 10 * SetTable.turns t.mask ≤ 5260 := by
    unfold SetTable.turns
    rcases R.tab.mas with e | e | e | e <;> omega
  unfold setSearch
  refine seek4 R hx room rfl near free busy yes (fun z => no K z free busy) 100000 0 none rfl (Nat.zero_le _) (by omega) fun i p hp hk => ?_
  have il : i < t.place.toList.length := by
    have b1 := (List.getElem?_eq_some_iff.mp hp).1
    have b2 := R.tab.num
    rw [List.length_map] at b2
    rw [Array.length_toList]
    omega
  obtain ⟨d, d1, d2⟩ := R.tab.ahead (h := thash P w k) (i := i) free (by rw [List.getElem?_map, hp, ← hk]; rfl) (List.getElem?_eq_getElem il)
  exact ⟨d, Nat.zero_le _, d1, by rw [List.getElem?_eq_getElem il, d2]⟩
/-- all laid anew in a larger table -/
theorem relay4 {o : Obj} (go : s.heap.get? a = some o) (gx : o.ExactSet) (gd : o.data = .set es ep t) (row : es.toList = rowsOf P w L) (num : t.place.size = es.size) (dum : t.dummies = #[]) (fl : es.size ≤ t.mask)
    (one : (L.map (·.2)).Nodup) (all : ∀ p ∈ L, IsT P w s.heap p.2 p.1) (pla : t.plain = true) (led : w.params.followText "set-order" = true ∨ t.led = true) (few : L.length < 300) {want M : Nat}
    (hw : SetTable.sizeAbove want - 1 = M) (hM : M4 M) (lo : SetTable.sizeAbove want ≤ 512) (gap : L.length * 5 < M * 3) {Q : Unit → Shared → Prop}
    (k : ∀ h' L' es' ep' t', Heap.SameBut a s.heap h' → Set4 P w h' a L' es' ep' t' → L'.Perm L → Q () { s with heap := h' }) : wpAny (model P w) A (setRelay a want) Q E s := by
  have l := rows_len row
  have fit : t.fits es.size = true := by
    unfold SetTable.fits SetTable.fill
    rw [dum, num]
    simp
    exact fl
  obtain ⟨t2, ord, e, pm, T, em, el, epl⟩ := relaid4 t (hs := es.map (·.1)) (want := want) hw hM (by rw [Array.size_map, l]; omega)
  rw [Array.size_map, l] at pm
  obtain ⟨L2, r1, r2, r3⟩ := order_rows L es ord row pm
  rw [← r3] at T
  have l2 : (ord.filterMap (es[·]?)).size = es.size := by rw [rows_len r1, r2.length_eq, l]
  rw [setRelay_eq]
  refine wpAny_bind (wpAny_setState_of go gd fit ?_)
  dsimp only
  refine wp_if_neg (by rw [sizeLine_eq]; omega) ?_
  try refine wpAny_bind (wpAny_pure ?_)
  rw [e]
  dsimp only
  refine wpAny_bind ?_
  refine wp_if_neg (by rw [l2]; simp) ?_
  try refine wpAny_bind (wpAny_pure ?_)
  refine wpAny_pure ?_
  dsimp only
  refine wpAny_storeSet_of go gd ?_ (by rw [l2, l, sizeLine_eq]; omega)
  have sb : Heap.SameBut a s.heap (s.heap.update a (Obj.putSet (ord.filterMap (es[·]?)) t2)) := Heap.SameBut.update ..
  refine k _ L2 (ord.filterMap (es[·]?)) (ep + 1) t2 sb ⟨⟨_, store_at go gd, ⟨gx.1, gx.2.1, gx.2.2⟩, rfl⟩, r1, T, (r2.map (·.2)).nodup_iff.mpr one, fun p hp => isT_same (all p (r2.mem_iff.mp hp)) go gd sb, by rw [epl]; exact pla, by rw [el]; exact led, by rw [r2.length_eq, em]; exact gap, by rw [r2.length_eq]; exact few⟩ r2
/-- one put in -/
theorem add4 (R : Set4 P w s.heap a L es ep t) {x : Addr} {k : List Int} (hx : IsT P w s.heap k x) (room : A.units < cLine) (few : L.length + 1 < 300) {Q : Bool → Shared → Prop}
    (q : ∀ b h' L' es' ep' t', Heap.SameBut a s.heap h' → Set4 P w h' a L' es' ep' t' → (k ∈ L.map (·.2) → L' = L) → (k ∉ L.map (·.2) → L'.Perm ((x, k) :: L)) → Q b { s with heap := h' }) :
    wpAny (model P w) A (setAddHashed a (.ref x) (thash P w k)) Q E s := by
  obtain ⟨o, go, gx, gd⟩ := R.obj
  have l := rows_len R.row
  have gap := R.gap
  unfold setAddHashed
  refine wpAny_holding ?_
  rw [show (100000 : Nat) = 99999 + 1 from rfl, setAddHashedIn_succ]
  refine wpAny_bind (wpAny_setState_of go gd R.fit ?_)
  dsimp only
  refine wp_if_neg (by simp [byScan, Value.scannable]) ?_
  try refine wpAny_bind (wpAny_pure ?_)
  refine wpAny_bind (seek4_all R hx room (fun hm => ?_) fun K hm free busy => ?_)
  · dsimp only
    exact wpAny_pure (q false s.heap L es ep t (Heap.SameBut.refl a s.heap) R (fun _ => rfl) fun z => absurd hm z)
  · dsimp only
    refine wpAny_bind (wpAny_setState_of go gd R.fit ?_)
    dsimp only
    obtain ⟨t1, p, ept, pl, T1, m1, l1, p1, f1⟩ := R.tab.put free busy
    rw [ept]
    dsimp only
    have pla1 : t1.plain = true := p1.trans R.pla
    first
      | (refine wpAny_bind ?_; refine wp_if_pos pla1 ?_; refine hashBy_tup hx ?_)
      | refine wp_if_pos pla1 (wpAny_bind (hashBy_tup hx ?_))
    simp only [if_true]
    rw [List.length_map] at pl f1
    have row1 : (SetTable.insertAt es p (thash P w k, Value.ref x)).toList = rowsOf P w (L.take p ++ (x, k) :: L.drop p) := by
      rw [SetTable.toList_insertAt, rows_put, R.row]
    have pm := put_perm L p (x, k)
    have hs1 : (L.take p ++ (x, k) :: L.drop p).map (fun p => thash P w p.2) = (L.map fun p => thash P w p.2).take p ++ thash P w k :: (L.map fun p => thash P w p.2).drop p := by
      simp [List.map_take, List.map_drop]
    rw [← hs1] at T1
    have one1 : ((L.take p ++ (x, k) :: L.drop p).map (·.2)).Nodup := (pm.map (·.2)).nodup_iff.mpr (by rw [List.map_cons]; exact List.nodup_cons.mpr ⟨hm, R.one⟩)
    have len1 : (L.take p ++ (x, k) :: L.drop p).length = L.length + 1 := pm.length_eq
    generalize L.take p ++ (x, k) :: L.drop p = L1 at pm len1 T1 one1 row1
    generalize SetTable.insertAt es p (thash P w k, Value.ref x) = es1 at row1 ⊢
    have size1 : es1.size = L.length + 1 := (rows_len row1).trans len1
    refine wpAny_bind (wpAny_storeSet_of go gd ?_ (by rw [size1, sizeLine_eq]; omega))
    have sb : Heap.SameBut a s.heap (s.heap.update a (Obj.putSet es1 t1)) := Heap.SameBut.update ..
    have go1 := store_at (es' := es1) (t' := t1) go gd
    generalize s.heap.update a (Obj.putSet es1 t1) = h1 at sb go1 ⊢
    have all1 : ∀ p ∈ L1, IsT P w h1 p.2 p.1 := fun p hp => by
      rcases List.mem_cons.mp (pm.mem_iff.mp hp) with e | hp
      · rw [e]
        exact isT_same hx go gd sb
      · exact isT_same (R.all p hp) go gd sb
    have led1 : w.params.followText "set-order" = true ∨ t1.led = true := by
      rw [l1]
      exact R.led
    have full : t1.tooFull = decide ((L.length + 1) * 5 ≥ t.mask * 3) := by
      unfold SetTable.tooFull
      rw [f1, m1]
    by_cases hf : (L.length + 1) * 5 ≥ t.mask * 3
    · rw [decide_eq_true hf] at full
      first
        | (refine wpAny_bind ?_; refine wp_if_pos (by simp [full]) ?_)
        | (refine wp_if_pos (by simp [full]) ?_; refine wpAny_bind ?_)
      rw [l]
      have num1 : t1.place.size = es1.size := by rw [T1.num, List.length_map, len1, size1]
      have go_on : ∀ M, SetTable.sizeAbove (SetTable.grown (L.length + 1)) - 1 = M → M4 M → SetTable.sizeAbove (SetTable.grown (L.length + 1)) ≤ 512 → (L.length + 1) * 5 < M * 3 → L.length + 1 ≤ t.mask →
          wpAny (model P w) A (setRelay a (SetTable.grown (L.length + 1))) (fun _ s' => wpAny (model P w) A (pure true) Q E s') E { s with heap := h1 } := fun M b1 b2 b3 b4 b5 => by
        refine relay4 (s := { s with heap := h1 }) go1 ⟨gx.1, gx.2.1, gx.2.2⟩ rfl row1 num1 T1.dum (by rw [size1, m1]; exact b5) one1 all1 pla1 led1 (by rw [len1]; exact few) b1 b2 b3 (by rw [len1]; exact b4) ?_
        intro h2 L2 es2 ep2 t2 sb2 R2 pm2
        exact wpAny_pure (q true h2 L2 es2 ep2 t2 (sb.trans sb2) R2 (fun z => absurd z hm) fun _ => pm2.trans pm)
      rcases R.tab.mas with e | e | e | e
      · have n4 : L.length = 4 := by omega
        exact go_on 31 (by rw [n4, size_20]) (.inr (.inl rfl)) (by rw [n4, size_20]; decide) (by omega) (by omega)
      · have n4 : L.length = 18 := by omega
        exact go_on 127 (by rw [n4, size_76]) (.inr (.inr (.inl rfl))) (by rw [n4, size_76]; decide) (by omega) (by omega)
      · have n4 : L.length = 76 := by omega
        exact go_on 511 (by rw [n4, size_308]) (.inr (.inr (.inr rfl))) (by rw [n4, size_308]; decide) (by omega) (by omega)
      · omega
    · rw [decide_eq_false hf] at full
      first
        | refine wp_if_neg (by simp [full]) ?_
        | (refine wpAny_bind ?_; refine wp_if_neg (by simp [full]) ?_; refine wpAny_pure ?_)
      refine wpAny_pure (q true h1 L1 es1 (ep + 1) t1 sb ⟨⟨_, go1, ⟨gx.1, gx.2.1, gx.2.2⟩, rfl⟩, row1, T1, one1, all1, pla1, led1, by rw [len1, m1]; omega, by rw [len1]; exact few⟩ (fun z => absurd z hm) fun _ => pm)
theorem Set4.keep {h h' : Heap} {a : Addr} {L : List (Addr × List Int)} {es : Array (Int × Value)} {ep : Nat} {t : SetTable} (R : Set4 P w h a L es ep t) (ha : ∀ o, h.get? a = some o → h'.get? a = some o) (ht : ∀ p ∈ L, IsT P w h' p.2 p.1) : Set4 P w h' a L es ep t := by
  obtain ⟨o, ho, r⟩ := R.obj
  exact ⟨⟨o, ha o ho, r⟩, R.row, R.tab, R.one, ht, R.pla, R.led, R.gap, R.few⟩
theorem set4_fresh {h : Heap} {a : Addr} (ho : h.get? a = some { cls := .type "set", dict := none, data := .set #[] 0 (.fresh 0 0 (!w.params.followText "set-order")) }) : Set4 P w h a [] #[] 0 (.fresh 0 0 (!w.params.followText "set-order")) where
  obj := ⟨_, ho, ⟨rfl, rfl, rfl⟩, rfl⟩
  row := rfl
  tab := ⟨List.Pairwise.nil, rfl, rfl, .inl rfl, fun i g y hi => (by simp at hi)⟩
  one := List.nodup_nil
  all := fun p hp => (by cases hp)
  pla := rfl
  led := by
    show _ ∨ (!w.params.followText "set-order") = true
    cases w.params.followText "set-order" <;> simp
  gap := (by show 0 * 5 < 7 * 3; decide)
  few := (by show 0 < 300; decide)
end
section
variable {P : Program} {w : World} {A : Around}
/-- the items are put in, one behind the other -/
theorem upd4 {R : Result → Shared → Prop} {J : Addr} {fp wr : List Addr} {G : Array GenState → Array GenState → Prop} {n : Nat} {T : Nat → Value → Prop} {Z : Nat → Shared → Prop}
    (W : WalksS P w A.in1 J fp wr G n T Z) (a : Addr) (ha : a ∉ fp) (ks : List (Addr × List Int)) (en : ks.length = n) (few : n < 300) (ht : ∀ i v, T i v → ∃ p, ks[i]? = some p ∧ v = .ref p.1) (h0 : Heap)
    (h0k : ∀ p ∈ ks, IsT P w h0 p.2 p.1) (h0a : h0.get? a = none) (h0w : ∀ b ∈ wr, h0.get? b = none) (room : A.in1.units < cLine) :
    ∀ (k i : Nat) (s : Shared) (L : List (Addr × List Int)) (es : Array (Int × Value)) (ep : Nat) (t : SetTable), n - i = k → i ≤ n → Z i s → (∀ b o, h0.get? b = some o → s.heap.get? b = some o) → Set4 P w s.heap a L es ep t → Got ks i L →
      (∀ s' L es ep t, Moved (a :: wr) G s s' → Set4 P w s'.heap a L es ep t → Got ks n L → (∀ b o, h0.get? b = some o → s'.heap.get? b = some o) → R (.ok (.ret .none)) s') →
      codeAny (model P w) A (.builtin "set.update.loop" ⟨[.ref a, .ref J], []⟩) R s
  | 0, i, s, L, es, ep, t, hk, hi, hz, hp, hS, hg, hR => by
    obtain rfl : i = n := by omega
    refine codeAny_builtin PyProof.Rows.F.entry_set_update_loop ?_
    rw [PySem.Around.under_plainId PyProof.Rows.F.plain_set_update_loop _]
    refine wpAny_bind (m := pyNext (.ref J)) (W.done s _ _ hz fun s' mv => ?_)
    have hp' : ∀ b o, h0.get? b = some o → s'.heap.get? b = some o := fun b o e => mv.heap b o (fun z => by rw [h0w b z] at e; cases e) (hp b o e)
    refine wpAny_pure (hR s' L es ep t (mv.mono fun b hb => List.mem_cons_of_mem _ hb) (hS.keep (fun o e => mv.heap a _ (fun z => ha (W.sub _ z)) e) fun p hpL => isT_keep (h0k p (List.mem_of_mem_take (hg.sub p hpL))) hp') hg hp')
  | k + 1, i, s, L, es, ep, t, hk, hi, hz, hp, hS, hg, hR => by
    have lt : i < n := by omega
    have sb : ∀ b ∈ wr, b ∈ a :: wr := fun b hb => List.mem_cons_of_mem _ hb
    refine codeAny_builtin PyProof.Rows.F.entry_set_update_loop ?_
    rw [PySem.Around.under_plainId PyProof.Rows.F.plain_set_update_loop _]
    refine wpAny_bind (m := pyNext (.ref J)) (W.item i s _ _ lt hz fun v s' hv hz' mv => ?_)
    obtain ⟨p, hpi, rfl⟩ := ht i v hv
    have hp' : ∀ b o, h0.get? b = some o → s'.heap.get? b = some o := fun b o e => mv.heap b o (fun z => by rw [h0w b z] at e; cases e) (hp b o e)
    have hS' : Set4 P w s'.heap a L es ep t := hS.keep (fun o e => mv.heap a _ (fun z => ha (W.sub _ z)) e) fun q hq => isT_keep (h0k q (List.mem_of_mem_take (hg.sub q hq))) hp'
    have hx : IsT P w s'.heap p.2 p.1 := isT_keep (h0k p (List.mem_of_getElem? hpi)) hp'
    show wpAny _ A.in1 (holding [Value.ref p.1] (setAdd a (.ref p.1)) >>= _) _ _ s'
    refine wpAny_bind (wpAny_holding ?_)
    unfold setAdd
    refine wpAny_holding (wpAny_bind (wpAny_pyHash_tuple room hx ?_))
    have gl := hg.len
    refine add4 (s := { s' with toks := s'.toks + (p.2.length + 1) }) hS' hx room (by omega) fun b h' L2 es2 ep2 t2 hb hS2 c1 c2 => ?_
    have hg2 : Got ks (i + 1) L2 := by
      by_cases c : p.2 ∈ L.map (·.2)
      · rw [c1 c]
        exact hg.same hpi c
      · exact hg.more hpi (c2 c)
    have hp2 : ∀ b o, h0.get? b = some o → h'.get? b = some o := fun b o e => (hb.2 b (fun z => by rw [z, h0a] at e; cases e)).trans (hp' b o e)
    refine wpAny_pure ⟨plainId_quiet PyProof.Rows.F.plain_set_update_loop _, upd4 W a ha ks en few ht h0 h0k h0a h0w room k (i + 1) _ L2 es2 ep2 t2 (by omega) lt (W.frame _ s' _ _ hz' (Nat.le_add_right _ _) fun b hb' o e => ?_) hp2 hS2 hg2 fun s2 L3 es3 ep3 t3 mv2 hS3 hg3 hp3 => ?_⟩
    · rw [hb.2 b (fun h : b = a => ha (by rw [← h]; exact hb'))]
      exact e
    · refine hR s2 L3 es3 ep3 t3 (Moved.trans W.gtrans ((mv.mono sb).then_heap (Nat.le_add_right _ _) fun b o hb' e => ?_) mv2) hS3 hg3 hp3
      rw [hb.2 b (fun h : b = a => hb' (by rw [h]; exact List.mem_cons_self))]
      exact e
set_option maxHeartbeats 4000000 in
theorem set_call4 {E : Value → Shared → Prop} {s : Shared} {l : Addr} {its : Array Value} (ks : List (Addr × List Int)) {Q : Value → Shared → Prop}
    (calm : A.handled = none) (hl : s.heap.IsList l its) (hi : its.toList = ks.map fun p => Value.ref p.1) (hk : ∀ p ∈ ks, IsT P w s.heap p.2 p.1) (few : ks.length < 300) (room : A.units + 3 < cLine)
    (h : ∀ (h' : Heap) (tk : Nat) L es ep t, Set4 P w h' s.heap.objs.size L es ep t → Got ks ks.length L → (∀ b o, s.heap.get? b = some o → h'.get? b = some o) → Q (.ref s.heap.objs.size) { s with heap := h', toks := tk }) :
    wpAny (model P w) A (call (.type "set") [.ref l]) Q E s := by
  have isz : ks.length = its.size := by
    have z := congrArg List.length hi
    simpa using z.symm
  have gone : ∀ b, s.heap.objs.size ≤ b → s.heap.get? b = none := fun b hb => by
    cases z : s.heap.get? b with
    | none => rfl
    | some o => exact (Nat.lt_irrefl _ (Nat.lt_of_lt_of_le (Heap.lt_size z) hb)).elim
  obtain ⟨c, tl, cm⟩ := F.called_set.mro
  have c1 := F.called_set.made
  have c2 := F.called_set.sub
  refine wpAny_call (codeAny_of_tree ?_)
  show wpAny _ _ (callAny (.type "set") _) _ _ _
  refine wpAny_pure ⟨Code.quiet_builtin _ (by decide +kernel), codeAny_builtin F.entry_type_call ?_⟩
  rw [PySem.Around.under_plain (weight_type_call_type "set" [.ref l] []) rfl]
  have c3 := F.called_set.notType
  have c4 := F.called_set.canCreate
  have c5 := PySem.F.typeCall_set_1 (.ref l)
  repeat (any_goals (first | assumption | wp_step))
  generalize eO : (!w.params.followText "set-order") = led
  refine codeAny_mono (set_new1 (.ref l) (E := E) (Q := fun v s1 => v = .ref s.heap.objs.size ∧ s1 = { s with heap := s.heap.push { cls := .type "set", dict := none, data := .set #[] 0 (.fresh 0 0 led) } }) (by rw [eO]; exact ⟨rfl, rfl⟩)) fun r s1 hr => ?_
  cases r with
  | error e => exact hr
  | ok fl =>
    cases fl with
    | ret v =>
      obtain ⟨rfl, rfl⟩ := hr
      have hO : (s.heap.push { cls := .type "set", dict := none, data := .set #[] 0 (.fresh 0 0 led) }).get? s.heap.objs.size = some { cls := .type "set", dict := none, data := .set #[] 0 (.fresh 0 0 led) } := Heap.get?_push_size _ rfl
      have hT : Shared.TypeIs { s with heap := s.heap.push { cls := .type "set", dict := none, data := .set #[] 0 (.fresh 0 0 led) } } (.ref s.heap.objs.size) "set" := ⟨_, hO, rfl⟩
      have c6 := F.called_set.init.lookup
      have c7 := F.called_set.init.bind (.ref s.heap.objs.size)
      repeat (any_goals (first | assumption | wp_step))
      refine codeAny_mono (codeAny_call_builtin (R := wants (fun r s2 => r = .none ∧ ∃ h' tk L es ep t, s2 = { s with heap := h', toks := tk } ∧ Set4 P w h' s.heap.objs.size L es ep t ∧ Got ks ks.length L ∧ (∀ b o, s.heap.get? b = some o → h'.get? b = some o)) E)
        F.called_set.init.plain F.entry_set_init (PySem.check_set_init_1 hT ?_)) fun r2 s2 hr2 => ?_
      · obtain ⟨⟨oc, od, oo, os⟩, g1, g2, nl, g3⟩ := hl
        simp only at g2 g3
        subst g2
        subst g3
        have g4 : (s.heap.push { cls := .type "set", dict := none, data := .set #[] 0 (.fresh 0 0 led) }).get? l = some { cls := .type "list", dict := od, data := .seq its nl, slots := os } := Heap.get?_push_of_some _ g1
        have n1 := PySem.F.sub_list_set
        have n2 := PySem.F.sub_list_frozenset
        have n3 : (Value.type "list" == Value.type "dict") = false := by decide
        have g5 : (s.heap.push { cls := .type "set", dict := none, data := .set #[] 0 (.fresh 0 0 led) }).IsList l its := ⟨_, g4, rfl, nl, rfl⟩
        unfold Builtin.«set.__init__» noKeywords Builtin.Frozenset.updateFrom
        generalize hPI : pyIter = PI
        wp_walk
        subst hPI
        refine wpAny_pyIter_list g5 ?_
        refine wpAny_bind (wpAny_runValue ?_)
        have lt : l < s.heap.objs.size := Heap.lt_size g1
        have calm3 : A.in1.in1.in1.handled = none := by simp [calm]
        have ne1 : l ≠ (s.heap.push { cls := .type "set", dict := none, data := .set #[] 0 (.fresh 0 0 led) }).objs.size := by
          rw [Heap.size_push]
          exact Nat.ne_of_lt (Nat.lt_succ_of_lt lt)
        have ne2 : s.heap.objs.size ∉ [(s.heap.push { cls := .type "set", dict := none, data := .set #[] 0 (.fresh 0 0 led) }).objs.size, l] := by
          rw [Heap.size_push]
          simp only [List.mem_cons, List.mem_singleton, List.not_mem_nil, or_false, not_or]
          exact ⟨Nat.ne_of_lt (Nat.lt_succ_self _), Nat.ne_of_gt lt⟩
        have hR0 : Set4 P w ((s.heap.push { cls := .type "set", dict := none, data := .set #[] 0 (.fresh 0 0 led) }).push { cls := .type "list_iterator", data := .fields #[.ref l, .int 0 0] }) s.heap.objs.size [] #[] 0 (.fresh 0 0 led) := by
          rw [← eO]
          exact set4_fresh (Heap.get?_push_of_some _ (Heap.get?_push_size _ rfl))
        refine upd4 ((Walks.list calm3 _ l ne1 its).toS) s.heap.objs.size ne2 ks isz (by omega) (fun i v hv => ?_) s.heap hk (gone _ (Nat.le_refl _)) (fun b hb => gone b (by rw [List.mem_singleton.mp hb, Heap.size_push]; exact Nat.le_succ _)) (by
            have : A.in1.in1.in1.in1.units ≤ A.units + 3 ∨ True := .inr trivial
            simp [Around.in1] at *
            omega) (its.size - 0) 0 _ [] #[] 0 _ (by omega) (Nat.zero_le _)
          ⟨⟨_, Heap.get?_push_size _ rfl, rfl, rfl⟩, g5.push _⟩ (fun b o e => Heap.get?_push_of_some _ (Heap.get?_push_of_some _ e)) hR0 (Got.zero ks) fun s' L es ep t mv hS hg hp => ?_
        · have z : its.toList[i]? = some v := by rw [Array.getElem?_toList]; exact hv
          rw [hi, List.getElem?_map] at z
          obtain ⟨p, hp1, hp2⟩ := Option.map_eq_some_iff.mp z
          exact ⟨p, hp1, hp2.symm⟩
        · obtain ⟨h', g', d', tk', os'⟩ := s'
          obtain rfl : g' = s.gens := mv.gens
          obtain rfl : d' = s.drawn := mv.drawn
          obtain rfl : os' = s.os := mv.os
          rw [← isz] at hg
          exact wpAny_pure (wpAny_pure ⟨rfl, h', tk', L, es, ep, t, rfl, hS, hg, hp⟩)
      · cases r2 with
        | error e => exact hr2
        | ok fl2 =>
          cases fl2 with
          | ret r =>
            obtain ⟨rfl, h', tk, L, es, ep, t, rfl, q1, q2, q3⟩ := hr2
            repeat (any_goals (first | assumption | wp_step))
            exact h _ _ _ _ _ _ q1 q2 q3
          | _ => exact hr2.elim
    | _ => exact hr.elim
end
section
open SrtO
variable {P : Program} {w : World} {A : Around} {E : Value → Shared → Prop} {s : Shared} {a : Addr} {L : List (Addr × List Int)} {es : Array (Int × Value)} {ep : Nat} {t : SetTable}
theorem sorted4 {Q : Value → Shared → Prop} (R : Set4 P w s.heap a L es ep t) (calm : A.handled = none) {d : Nat} (hd : 1 ≤ d) (hL : ∀ p ∈ L, p.2.length = d)
    (q : ∀ s' p (out : Array Value) (c : Nat) (L' : List (Addr × List Int)), (∀ b o, s.heap.get? b = some o → s'.heap.get? b = some o) → s'.gens = s.gens → s'.os = s.os → s.heap.objs.size ≤ p →
      s'.heap.get? p = some (seqObj "list" out c) → out.toList = L'.map (fun q => Value.ref q.1) → L'.Perm L → L'.Pairwise (fun q r => HT.lexLt r.2 q.2 = false) → Q (.ref p) s') :
    wpAny (model P w) A (call (.builtin "sorted") [.ref a]) Q E s := by
  obtain ⟨o, go, gx, gd⟩ := R.obj
  have l := rows_len R.row
  have few := R.few
  refine Calls.call_function_entry kind_sorted plain_sorted entry_sorted (args_sorted1 _) ?_
  unfold Builtin.«sorted»
  refine wpAny_bind (m := checkCount "sorted" 1 1 _) (wpAny_pure ?_)
  refine wpAny_bind (collect_set (A := A.in1) calm ⟨o, go, gx.1, gd⟩ R.fit (by unfold scanBound; omega) R.tab.ris R.led fun s1 vs k1 hz g1 o1 pm => ?_)
  have hes : es.toList.map (·.2) = L.map fun q => Value.ref q.1 := by
    rw [R.row]
    unfold rowsOf
    rw [List.map_map]
    rfl
  rw [hes] at pm
  have lv : vs.length = L.length := by rw [pm.length_eq, List.length_map]
  let kk : Value → List Int := TS.intsOf s.heap
  have kOf : ∀ p ∈ L, kk (.ref p.1) = p.2 := fun p hp => (tupInts_of (R.all p hp)).ints
  have ofV : ∀ v ∈ vs, ∃ p ∈ L, v = Value.ref p.1 := fun v hv => by
    obtain ⟨p, hp, e⟩ := List.mem_map.mp (pm.mem_iff.mp hv)
    exact ⟨p, hp, e.symm⟩
  refine wpAny_bind (wpAny_newList ?_ (by rw [sizeLine_eq]; omega))
  have hoL : (s1.heap.push (seqObj "list" vs.toArray 0)).get? s1.heap.objs.size = some (seqObj "list" vs.toArray 0) := Heap.get?_push_size _ rfl
  have tk : TupsK (s1.heap.push (seqObj "list" vs.toArray 0)) d kk vs := fun v hv => by
    obtain ⟨p, hp, rfl⟩ := ofV v hv
    rw [kOf p hp]
    exact ⟨tupInts_of (P := P) (w := w) (isT_keep (R.all p hp) fun b u e => Heap.get?_push_of_some _ (k1 b u e)), hL p hp⟩
  refine wpAny_bind (wpAny_holding (wpAny_call_entry slot_list_sort ⟨_, hoL, rfl⟩ entry_list_sort (list_sort_ord (s := { s1 with heap := s1.heap.push (seqObj "list" vs.toArray 0) }) (lx_swo kk) hoL (by rw [sizeLine_eq]; omega) (fun h2 => tups_sortable hd (by omega) tk fun o e => ?_) fun out h1 h2 => ⟨_, rfl, ?_⟩) (args_list_sort _)))
  · have e' : some o = some (seqObj "list" vs.toArray 0) := e.symm.trans hoL
    cases e'
    intro c
    exact absurd (Value.type.inj c) (by decide)
  obtain ⟨c, hc⟩ := sortedHeap_at (vs := vs) (out := out.toArray) hoL
  have pv : out.Perm (L.map fun q => Value.ref q.1) := h2.perm.trans pm
  -- the addresses are of the members, each once
  have back : ∀ vs : List Value, (∀ v ∈ vs, ∃ p ∈ L, v = Value.ref p.1) → ∃ M : List (Addr × List Int), vs = M.map (fun q => Value.ref q.1) ∧ ∀ p ∈ M, p ∈ L := by
    intro vs
    induction vs with
    | nil => exact fun _ => ⟨[], rfl, fun p hp => (by cases hp)⟩
    | cons v vs ih =>
      intro hv
      obtain ⟨p, hp, e⟩ := hv v List.mem_cons_self
      obtain ⟨M, e2, hM⟩ := ih fun u hu => hv u (List.mem_cons_of_mem _ hu)
      refine ⟨p :: M, by rw [List.map_cons, e, e2], fun r hr => ?_⟩
      rcases List.mem_cons.mp hr with rfl | hr
      · exact hp
      · exact hM r hr
  obtain ⟨M, eM, hM⟩ := back out fun v hv => by
    obtain ⟨p, hp, e⟩ := List.mem_map.mp (pv.mem_iff.mp hv)
    exact ⟨p, hp, e.symm⟩
  have keys : (M.map (·.2)).Perm (L.map (·.2)) := by
    have z := pv.map kk
    rw [eM, List.map_map, List.map_map] at z
    rw [show M.map (·.2) = M.map (kk ∘ fun q => Value.ref q.1) from List.map_congr_left fun p hp => (kOf p (hM p hp)).symm, show L.map (·.2) = L.map (kk ∘ fun q => Value.ref q.1) from List.map_congr_left fun p hp => (kOf p hp).symm]
    exact z
  have nM : (M.map (·.2)).Nodup := keys.nodup_iff.mpr R.one
  have pM : M.Perm L := (List.perm_ext_iff_of_nodup (nodup_of_map nM) (nodup_of_map R.one)).mpr fun p => ⟨hM p, fun hp => by
    obtain ⟨r, hr, e⟩ := List.mem_map.mp (keys.mem_iff.mpr (List.mem_map.mpr ⟨p, hp, rfl⟩))
    have nL := R.one
    -- members of one key are one
    have same : ∀ {N : List (Addr × List Int)}, (N.map (·.2)).Nodup → ∀ x ∈ N, ∀ y ∈ N, x.2 = y.2 → x = y := by
      intro N
      induction N with
      | nil => exact fun _ x hx => (by cases hx)
      | cons z N ih =>
        intro hn x hx y hy e
        rw [List.map_cons, List.nodup_cons] at hn
        rcases List.mem_cons.mp hx with rfl | hx2
        · rcases List.mem_cons.mp hy with rfl | hy2
          · rfl
          · exact absurd (show x.2 ∈ N.map (·.2) from List.mem_map.mpr ⟨y, hy2, e.symm⟩) hn.1
        · rcases List.mem_cons.mp hy with rfl | hy2
          · exact absurd (show y.2 ∈ N.map (·.2) from List.mem_map.mpr ⟨x, hx2, e⟩) hn.1
          · exact ih hn.2 x hx2 y hy2 e
    rw [← same nL r (hM r hr) p hp e]
    exact hr⟩
  have pw : M.Pairwise (fun q r => HT.lexLt r.2 q.2 = false) := by
    have z : out.Pairwise (fun v u => HT.lexLt (kk u) (kk v) = false) := h1
    rw [eM] at z
    refine List.Pairwise.imp_of_mem (fun {q r} hq hr hle => ?_) (List.pairwise_map.mp z)
    rw [kOf q (hM q hq), kOf r (hM r hr)] at hle
    exact hle
  refine wpAny_pure ⟨_, rfl, q _ s1.heap.objs.size out.toArray c M (fun b u e => ?_) g1 o1 hz hc (by rw [← eM]) pM pw⟩
  have z := k1 b u e
  have lt := Heap.lt_size z
  show (sortedHeap (s1.heap.push (seqObj "list" vs.toArray 0)) s1.heap.objs.size vs out.toArray).get? b = some u
  rw [sortedHeap_old (Nat.ne_of_lt lt) (by rw [size_push']; exact Nat.lt_succ_of_lt lt)]
  exact Heap.get?_push_of_some _ z
end
/-! over the layer -/
structure SetG0 (P : Program) (w : World) (h : Heap) (a : Addr) (L : List (Addr × List Int)) : Prop where
  ex : ∃ (es : Array (Int × Value)) (ep : Nat) (t : SetTable), (∃ o, h.get? a = some o ∧ o.ExactSet ∧ o.data = .set es ep t) ∧ es.toList = rowsOf P w L ∧ Tab4 t (L.map fun p => thash P w p.2) ∧ (L.map (·.2)).Nodup ∧ t.plain = true ∧ (w.params.followText "set-order" = true ∨ t.led = true) ∧ L.length * 5 < t.mask * 3 ∧ L.length < 300
def SetGO (P : Program) (w : World) (a : Addr) (L : List (Addr × List Int)) : HO := .ext fun h => SetG0 P w h a L
section
variable {P : Program} {w : World} {h : Heap} {a : Addr} {L : List (Addr × List Int)} {es : Array (Int × Value)} {ep : Nat} {t : SetTable}
theorem Set4.bare (R : Set4 P w h a L es ep t) : SetG0 P w h a L := ⟨es, ep, t, R.obj, R.row, R.tab, R.one, R.pla, R.led, R.gap, R.few⟩
theorem SetG0.whole (R : SetG0 P w h a L) (ht : ∀ p ∈ L, IsT P w h p.2 p.1) : ∃ es ep t, Set4 P w h a L es ep t := by
  obtain ⟨es, ep, t, b1, b2, b3, b4, b5, b6, b7, b8⟩ := R.ex
  exact ⟨es, ep, t, b1, b2, b3, b4, ht, b5, b6, b7, b8⟩
theorem setG_new {H : Hp} (R : SetG0 P w h a L) : ObjOk P w H h a (SetGO P w a L) := by
  have ⟨es, ep, t, ⟨o, ho, r⟩, z⟩ := R.ex
  refine ⟨R, ⟨o, ho⟩, fun h1 h2 p k => ?_⟩
  have ⟨es', ep', t', ⟨o', ho', r'⟩, z'⟩ := SetG0.ex p
  exact ⟨es', ep', t', ⟨o', k o' ho', r'⟩, z'⟩
end
section
variable {X : Cx}
def rSetOfG (K : PySem.W.Frag) (P : Program) (w : World) : List V → Hp → VK → Prop := fun xs H Q => ∃ (l : Addr) (ks : List (Addr × List Int)), xs = [V.ref l] ∧ SqL K H l (ks.map fun p => V.ref p.1) ∧ (∀ p ∈ ks, SqT K H p.1 (p.2.map V.int)) ∧ ks.length < 300 ∧
  ∀ a L, H a = none → (∀ p ∈ L, p ∈ ks) → (∀ p ∈ ks, p.2 ∈ L.map (·.2)) → Q (.ref a) (upd H a (SetGO P w a L))
theorem cr_setOfG (hc : X.calm = true) (hu : X.A.units + 64 < cLine) : CallR X (.type "set") (rSetOfG X.K X.prog X.w) := by
  intro pins s σ H xs us Q I r h
  obtain ⟨l, ks, rfl, hl, hk, few, q⟩ := h
  rw [Vals.ref1 r]
  obtain ⟨its, rv, pl, hz⟩ := I.list hl
  refine set_call4 (P := X.prog) (w := X.w) ks (I.ok.hd hc) pl.isList (by simpa using refs_of_vals rv) (fun p hp => I.isT (hk p hp)) few (by omega) fun h' tk L es ep t R g k => ?_
  exact ⟨.ref _, _, I.laid (t' := tk) k (Nat.le_refl _) (setG_new R.bare), rfl, q _ L (I.hok.fresh (Nat.le_refl _)) (fun p hp => List.mem_of_mem_take (g.sub p hp)) fun p hp => g.all p (by rw [List.take_length]; exact hp)⟩
def rSortedG (K : PySem.W.Frag) (P : Program) (w : World) : List V → Hp → VK → Prop := fun vs H Q => ∃ (a : Addr) (L : List (Addr × List Int)) (d : Nat) (_B : Int), vs = [V.ref a] ∧ H a = some (SetGO P w a L) ∧ (∀ p ∈ L, SqT K H p.1 (p.2.map V.int)) ∧ 1 ≤ d ∧
  (∀ p ∈ L, p.2.length = d ∧ TS.Bd _B p.2) ∧
  ∀ (L' : List (Addr × List Int)) (p : Addr), L'.Perm L → (L'.map (·.2)).Nodup → L'.length < 300 → L'.Pairwise (fun q r => HT.lexLt r.2 q.2 = false) → H p = none → Q (.ref p) (upd H p (.lst (L'.map fun q => V.ref q.1)))
theorem cr_sortedG (hc : X.calm = true) : CallR X (.builtin "sorted") (rSortedG X.K X.prog X.w) := by
  intro pins s σ H vs us Q I r h
  obtain ⟨a, L, d, B, rfl, ha, hk, hd, hB, q⟩ := h
  have R0 : SetG0 X.prog X.w s.heap a L := (I.hok a _ ha).1
  obtain ⟨es, ep, t, R⟩ := R0.whole fun p hp => I.isT (hk p hp)
  rw [Vals.ref1 r]
  refine sorted4 R (I.ok.hd hc) hd (fun p hp => (hB p hp).1) fun s2 p out c M k g o hp hg hout pm pw => ?_
  have hl : M.length < 300 := by rw [pm.length_eq]; exact R.few
  have no : H p = none := I.hok.fresh hp
  obtain ⟨h2, g2, d2, tk2, os2⟩ := s2
  obtain rfl : g2 = s.gens := g
  obtain rfl : os2 = s.os := o
  have hv : Vals (M.map fun q => V.ref q.1) out.toList := by rw [hout]; exact vals_of_refs M
  have hlen : (M.map fun q => V.ref q.1).length ≤ sizeLine := by rw [List.length_map, sizeLine_eq]; omega
  have J : Inv X pins σ (upd H p (.lst (M.map fun q => V.ref q.1))) { s with heap := h2, drawn := d2, toks := tk2 } := I.call (ch := []) (Un.laid k hp no) (I.hok.laid k hp ⟨hlen, out.toList, c, hv, hg⟩) I.bare (fun _ z => nomatch z)
  exact ⟨.ref p, _, J, rfl, q M p pm ((pm.map (·.2)).nodup_iff.mpr R.one) hl pw no⟩
end
/-! as a comprehension -/
def O0G (P : Program) (w : World) (D : Addr) : HO := SetGO P w D []
def AdG (K : PySem.W.Frag) (P : Program) (w : World) (y : V) (D : Addr) (H : Hp) (R : Hp → Prop) : Prop := ∃ (t : Addr) (k : List Int) (L : List (Addr × List Int)), y = .ref t ∧ SqT K H t (k.map V.int) ∧ H D = some (SetGO P w D L) ∧ (∀ p ∈ L, SqT K H p.1 (p.2.map V.int)) ∧ L.length + 1 < 300 ∧
  ∀ L', (k ∈ L.map (·.2) → L' = L) → (k ∉ L.map (·.2) → L'.Perm ((t, k) :: L)) → R (upd H D (SetGO P w D L'))
theorem kd_tupsG {P : Program} {w : World} {K : PySem.W.Frag} : SetKd P w K (fun A => A.units + 3 < cLine) (O0G P w) (AdG K P w) where
  new := setG_new (Set4.bare (set4_fresh (Heap.get?_push_size _ rfl)))
  add := by
    intro X A pins σ H s E D y u R Q hP hw hK hA I ry h kk
    subst hP hw hK
    obtain ⟨t, k, L, rfl, ht, hD, hL, few, hR⟩ := h
    obtain rfl : u = Value.ref t := ry
    have R0 : SetG0 X.prog X.w s.heap D L := (I.hok D _ hD).1
    obtain ⟨es, ep, tb, R1⟩ := R0.whole fun p hp => I.isT (hL p hp)
    have hx : IsT X.prog X.w s.heap k t := I.isT ht
    obtain ⟨o, ho, hex, hd⟩ := R1.obj
    have hu1 : A.in1.units < cLine := by
      have : A.in1.units ≤ A.units + 1 := by simp [Around.in1]
      omega
    refine wpAny_call_entry F.slot_set_add ⟨o, ho, hex.1⟩ F.entry_set_add ?_ (F.args_set_add_2 _ _)
    unfold Builtin.«set.add» Builtin.Frozenset.oneOther
    simp only [List.isEmpty_nil, bind_assoc]
    unfold Builtin.Frozenset.addrOf setAdd
    refine wpAny_bind (wpAny_pure ?_)
    try dsimp only
    refine wpAny_bind (wpAny_pure ?_)
    try dsimp only
    refine wpAny_bind ?_
    refine wpAny_holding ?_
    refine wpAny_bind (wpAny_pyHash_tuple hu1 hx ?_)
    refine add4 (s := { s with toks := s.toks + (k.length + 1) }) (R1.keep (fun o e => e) fun p hp => R1.all p hp) hx hu1 few fun b h' L' es' ep' t' hsb hS2 c1 c2 => ?_
    show wpAny _ _ (ret Value.none) _ _ _
    have he : ∃ u, h'.get? D = some u := by
      obtain ⟨o', ho', _⟩ := hS2.obj
      exact ⟨o', ho'⟩
    refine wpAny_pure ⟨_, rfl, kk _ _ (I.write (e := D) (t' := s.toks + (k.length + 1)) (by rw [hD]; trivial) (.inl rfl) (fun b u hb hu => (hsb.2 b hb).trans hu) he (setG_new hS2.bare)) (hR L' c1 c2)⟩
theorem s_adG {K : PySem.W.Frag} {P : Program} {w : World} {H : Hp} {D t : Addr} {ks : List Int} {L : List (Addr × List Int)} {R : Hp → Prop} (ht : SqT K H t (ks.map V.int)) (h : H D = some (SetGO P w D L)) (hL : ∀ p ∈ L, SqT K H p.1 (p.2.map V.int)) (few : L.length + 1 < 300)
    (k : ∀ L' H', (ks ∈ L.map (·.2) → L' = L) → (ks ∉ L.map (·.2) → L'.Perm ((t, ks) :: L)) → Fr D H H' → H' D = some (SetGO P w D L') → R H') : AdG K P w (.ref t) D H R :=
  ⟨t, ks, L, rfl, ht, h, hL, few, fun L' h1 h2 => k L' _ h1 h2 Fr.upd upd_same⟩
theorem tk_setG {K : PySem.W.Frag} {P : Program} {w : World} {b : Addr} {L : List (Addr × List Int)} {H H' : Hp} (e : Fr b H H') (hb : H b = some (SetGO P w b L)) : Tk K H H' :=
  tk_fr e hb (fun _ z => by have z' : HO.ext _ = HO.tup _ := z; cases z') (fun _ _ z => by have z' : HO.ext _ = HO.frz _ _ := z; cases z')
end Z

set_option Elab.async false
set_option linter.all false
set_option maxRecDepth 100000
set_option maxHeartbeats 2000000
namespace Z
open PySem PySem.Spec PyProof.Rows L2
/-! sorted of a dict whose keys are ints, any number of them -/
def rSortDG : List V → Hp → VK → Prop := fun xs H Q => ∃ (a : Addr) (kvs : List (Key × V)) (ks : List Int), xs = [.ref a] ∧ Rd H a (.dK kvs) ∧ kvs.map (·.1) = ks.map Sum.inl ∧ ks.length ≤ 10000 ∧
    ∀ (ys : List Int) p, ys.Perm ks → ys.Pairwise (· ≤ ·) → H p = none → Q (.ref p) (upd H p (.lst (ys.map V.int)))
theorem cr_sortDG {X : Cx} (calm : X.calm = true) : CallR X (.builtin "sorted") rSortDG := by
  intro pins s σ H xs us Q I r q
  obtain ⟨a, kvs, ks, rfl, hd, hks, few, q⟩ := q
  obtain ⟨u, rfl, rx⟩ := vals1 r
  cases rx
  obtain ⟨z, lo, vs, rel, dd⟩ := dk_rd I.hok hd
  obtain ⟨ep, at_⟩ := dd.dictAt
  have keys : vs.map (·.1) = ks.map Sum.inl := rel.keys.symm.trans hks
  have lv : vs.length = ks.length := by
    have e := congrArg List.length keys
    simpa using e
  refine Calls.call_function_entry kind_sorted plain_sorted entry_sorted (args_sorted1 _) ?_
  unfold Builtin.«sorted»
  refine wpAny_bind (m := checkCount "sorted" 1 1 _) (wpAny_pure ?_)
  refine wpAny_bind (PySem.W.kdu_collect (A := X.A.in1) (PySem.W.kdl_dict (knd := mixKind X.prog X.w) (kvs := vs) (ep := ep) lo) (I.ok.hd calm) at_ (by rw [lv, sizeLine_eq]; omega) fun h' tk acc keep got => ?_)
  have la : acc.toList.length = ks.length := by rw [Array.length_toList, got.1, lv]
  have hI : IntsAre acc.toList ks := ints_each la fun j v e => by
    obtain ⟨k, x, e1, e2⟩ := got.2 j v (by rw [← Array.getElem?_toList]; exact e)
    have e3 : (vs.map (·.1))[j]? = some k := by
      rw [List.getElem?_map, e1]
      rfl
    rw [keys, List.getElem?_map] at e3
    obtain ⟨y, e4, e5⟩ := Option.map_eq_some_iff.mp e3
    subst e5
    rcases keyIs_shape (show keyIs (Sum.inl y) v = true from e2) with ⟨i, t, ek, ev⟩ | ⟨i, t, ek, ev⟩
    · cases ek
      exact ⟨y, t, e4, ev⟩
    · cases ek
  have J : Inv X pins σ H { s with heap := h', toks := tk } := I.kept keep
  refine wpAny_bind (wpAny_newList ?_ (by rw [la, sizeLine_eq]; omega))
  have oL : (h'.push (seqObj "list" acc.toList.toArray 0)).get? h'.objs.size = some (seqObj "list" acc.toList.toArray 0) := Heap.get?_push_size _ rfl
  show wpAny _ _ _ _ _ { s with heap := h'.push (seqObj "list" acc.toList.toArray 0), toks := tk }
  refine wpAny_bind (wpAny_holding (wpAny_call_entry slot_list_sort ⟨_, oL, rfl⟩ entry_list_sort (SrtO.list_sort_ord (s := { s with heap := h'.push (seqObj "list" acc.toList.toArray 0), toks := tk }) SrtO.swo_int oL (by rw [la, sizeLine_eq]; omega) (fun h2 => SrtO.ints_sortable hI h2) fun out h1 h2 => ⟨_, rfl, ?_⟩) (args_list_sort _)))
  obtain ⟨g1, g2, g3⟩ := SrtO.ints_out hI h1 h2
  obtain ⟨e', he'⟩ := sortedHeap_at (vs := acc.toList) (out := out.toArray) oL
  have lz : ((out.map SrtO.iv).map V.int).length ≤ sizeLine := by rw [List.length_map, g2.length_eq, sizeLine_eq]; omega
  refine wpAny_pure ⟨_, rfl, .ref h'.objs.size, upd H h'.objs.size (.lst ((out.map SrtO.iv).map V.int)), J.laid (t' := tk) (fun b u e => ?_) (Nat.le_refl _)
    (show ObjOk X.prog X.w _ _ _ (.lst ((out.map SrtO.iv).map V.int)) from ⟨lz, out, e', vals_of_ints g1, he'⟩), rfl, q _ _ g2 g3 (J.hok.fresh (Nat.le_refl _))⟩
  have lt : b < h'.objs.size := Heap.lt_size e
  rw [sortedHeap_old (Nat.ne_of_lt lt) (by rw [size_push']; exact Nat.lt_succ_of_lt lt)]
  exact Heap.get?_push_of_some _ e
theorem s_sortDG {H : Hp} {Q : VK} {a : Addr} {kvs : List (Key × V)} {ks : List Int} (h : H a = some (.dK kvs)) (hk : kvs.map (·.1) = ks.map Sum.inl) (z : ks.length ≤ 10000) (k : ∀ (ys : List Int) p H', ys.Perm ks → ys.Pairwise (· ≤ ·) → H p = none → Ex H H' → H' p = some (.lst (ys.map V.int)) → Q (.ref p) H') : rSortDG [.ref a] H Q :=
  ⟨a, kvs, ks, rfl, .inl h, hk, z, fun ys p h1 h2 h3 => k ys p _ h1 h2 h3 (Ex.new h3) upd_same⟩
end Z

set_option Elab.async false
set_option maxRecDepth 100000
set_option maxHeartbeats 4000000
set_option linter.all false
namespace Q
open PySem L2 Z
def top (i : Nat) : Stmt := PySem.Challenge.pw_pikeroll_k09_why_tickets_clear_not.main.body.getD i (.Pass ⟨0, 0, 0, 0⟩)
abbrev s_p_is_number : Stmt := top 5
abbrev s_p_is_good : Stmt := top 6
abbrev s_p_holding : Stmt := top 7
abbrev s_p_toll_on : Stmt := top 8
abbrev s_p_board_on : Stmt := top 9
abbrev s_p_need_passing : Stmt := top 13
abbrev s_p_fare : Stmt := top 14
abbrev s_p_passings_on : Stmt := top 15
abbrev s_p_free_on : Stmt := top 16
abbrev s_p_lost_minutes : Stmt := top 17
abbrev s_p_why : Stmt := top 19
abbrev s_l_bag : Stmt := top 21
abbrev s_l_pull : Stmt := top 22
abbrev s_l_like : Stmt := top 23
abbrev s_l_gate : Stmt := top 25
abbrev s_l_day : Stmt := top 26
abbrev s_l_board : Stmt := top 27
abbrev s_l_passing : Stmt := top 28
abbrev s_l_stretch : Stmt := top 29
abbrev s_l_fact : Stmt := top 30
abbrev s_l_facts : Stmt := top 31
abbrev s_l_hold : Stmt := top 32
abbrev s_l_clears : Stmt := top 33
abbrev s_l_asked_toll : Stmt := top 34
abbrev s_l_free : Stmt := top 35
abbrev s_l_bar : Stmt := top 36
abbrev s_l_walk : Stmt := top 37
abbrev s_l_rows : Stmt := top 38
abbrev s_l_told : Stmt := top 39
abbrev s_l_far : Stmt := top 24
abbrev s_c_CarriageDay_init : Stmt := inClass (top 18) 0
abbrev s_c_CarriageDay_hindrance : Stmt := inClass (top 18) 1
abbrev s_c_CarriageDay_told_row : Stmt := inClass (top 18) 2
abbrev s_c_CarriageDay_walk : Stmt := inClass (top 18) 3
abbrev s_c_Missing_init : Stmt := inClass (top 1) 0
abbrev s_law : Stmt := top 40

local macro_rules | `(tactic| walk_at "z0") => `(tactic| try dsimp only [L2.cxOf, L2.Cx.nox, L2.Cx.wish])
local macro_rules | `(tactic| walk_at "zside") => `(tactic| first
  | decide | omega | exact ⟨by omega, by omega⟩ | exact Or.inr ⟨by omega, by omega⟩ | exact Or.inl ⟨by omega, by omega⟩ | exact ⟨by decide, by decide⟩ | exact ⟨by decide, by decide, by decide⟩ | (dsimp only; omega))
local macro_rules | `(tactic| walk_at "zex") => `(tactic| first | assumption | exact Ex.refl | (refine Ex.trans ?_ (by assumption); walk_at "zex"))
local macro_rules | `(tactic| walk_at "zbag") => `(tactic| first | assumption | (apply Bag.ext; assumption; walk_at "zex"))
local macro_rules | `(tactic| walk_at "zne") => `(tactic| first | assumption | exact Ne.symm (by assumption) | (apply neb_of; assumption; walk_at "zbag") | (apply nec_of; assumption; walk_at "zbag"))
local macro_rules | `(tactic| walk_at "zhp") => `(tactic| first | assumption | exact upd_same | (refine upd_at ?_ ?_; (focus (walk_at "zne")); walk_at "zhp") | (apply ex_at; assumption; walk_at "zhp") | (apply fr_at; assumption; (focus (walk_at "zne")); walk_at "zhp"))
local macro_rules | `(tactic| walk_at "zkb") => `(tactic| first | with_reducible exact kb_int_tuple | with_reducible exact kb_int_list | with_reducible exact kb_int_bool | with_reducible exact kb_int_int | with_reducible exact kb_str_tuple | with_reducible exact kb_str_list | with_reducible exact kb_str_bool | with_reducible exact kb_str_int | with_reducible exact kb_bool_tuple | with_reducible exact kb_bool_list | with_reducible exact kb_bool_bool | with_reducible exact kb_bool_int | with_reducible exact kb_NoneType_tuple | with_reducible exact kb_NoneType_list | with_reducible exact kb_NoneType_bool | with_reducible exact kb_NoneType_int | with_reducible exact kb_tuple_tuple | with_reducible exact kb_tuple_list | with_reducible exact kb_tuple_bool | with_reducible exact kb_tuple_int | with_reducible exact kb_list_tuple | with_reducible exact kb_list_list | with_reducible exact kb_list_bool | with_reducible exact kb_list_int)
local macro_rules | `(tactic| walk_at "zsz") => `(tactic| first | exact sz (by decide) | exact sz (by simp) | exact sz (by omega))
local macro_rules | `(tactic| walk_at "zex") => `(tactic| first | assumption | exact Ex.refl | (refine Ex.trans ?_ (by assumption); walk_at "zex"))
local macro_rules | `(tactic| walk_at "zsL") => `(tactic| first | exact SqL.of (by walk_at "zhp") | assumption | (apply sqL_ex; assumption; walk_at "zex"))
local macro_rules | `(tactic| walk_at "zsT") => `(tactic| first | exact SqT.of (by walk_at "zhp") | assumption | (apply sqT_ex; assumption; walk_at "zex"))
local macro_rules | `(tactic| walk_at "zsq") => `(tactic| first | walk_at "zsL" | walk_at "zsT" | (apply Or.inl; walk_at "zsL") | (apply Or.inr; walk_at "zsT"))
local macro_rules | `(tactic| walk_at "zty") => `(tactic| first | assumption | exact .base (.int _) | exact .base (.bl _) | exact .base (.str _) | exact .base .non | exact ty_sqT (by walk_at "zsq") | exact ty_sqL (by walk_at "zsq"))
local macro_rules | `(tactic| walk_at "zbag") => `(tactic| first | assumption | (apply Bag.ext; assumption; walk_at "zex"))
local macro_rules | `(tactic| walk_at "zpull") => `(tactic| (apply use_pull; (focus (walk_at "zbag")); (focus (first | exact ⟨by decide, by decide⟩ | exact ⟨by omega, by omega⟩ | (exact ⟨by simp; omega, by simp; omega⟩))); intro _ _ _ _ _ _))
local macro_rules | `(tactic| walk_at "zin") => `(tactic| repeat (first | exact intIn_nil | (refine intIn_cons ⟨?_, ?_⟩ ?_; (focus omega); (focus omega)) | (refine intIn_cons ?_ ?_; (focus (first | assumption | exact ⟨by omega, by omega⟩)))))
local macro_rules | `(tactic| walk_at "zfr") => `(tactic| first | assumption | exact Fr.refl | (refine Fr.trans ?_ (by assumption); walk_at "zfr") | (refine Fr.trans ?_ (Ex.fr _ (by assumption)); walk_at "zfr"))
local macro_rules | `(tactic| walk_at "zdp") => `(tactic| repeat' (first | exact DpAll.nil | apply DpAll.cons | exact Dp.int _ | exact Dp.str _ | exact Dp.bl _ | exact Dp.non | assumption))
local macro_rules | `(tactic| walk_at "zR") => `(tactic| first | assumption | exact ⟨by omega, by omega⟩)
local macro_rules | `(tactic| walk_at "z1") => `(tactic| first
  | ((with_reducible apply s_var); exact rfl)
  | with_reducible refine s_C ?_
  | with_reducible refine s_op ?_
  | ((with_reducible apply s_rI); (focus (walk_at "zside")))
  | with_reducible refine s_rI0 ?_
  | with_reducible refine s_rEqI ?_
  | with_reducible refine s_rNeI ?_
  | with_reducible refine s_rEqS ?_
  | with_reducible refine s_rNeS ?_
  | with_reducible refine s_rEqB ?_
  | with_reducible refine s_rNeB ?_
  | ((with_reducible apply s_ixL); (focus (walk_at "zsq")); (focus (exact rfl)))
  | ((with_reducible apply s_ixT); (focus (walk_at "zsq")); (focus (exact rfl)))
  | ((with_reducible apply s_rLen); (focus (walk_at "zsq")))
  | with_reducible refine s_rAbs ?_
  | with_reducible refine s_rMax2 ?_
  | with_reducible refine s_rMin2 ?_
  | with_reducible refine s_rInt1 ?_
  | with_reducible refine s_rIntB ?_
  | with_reducible refine s_rIsN ?_
  | with_reducible refine s_rNotN ?_
  | with_reducible refine s_rFind ?_
  | ((with_reducible apply s_newS); (focus (walk_at "zsz")); intro _ _ _ _ _)
  | ((with_reducible apply s_new); intro _ _ _ _ _)
  | ((with_reducible apply s_slL); (focus (walk_at "zsq")))
  | ((with_reducible apply s_isi); (focus (walk_at "zty")); (focus (walk_at "zkb")))
  | ((with_reducible apply s_isiTL); (focus (walk_at "zhp")); (focus (walk_at "zty")); (focus (walk_at "zkb")); (focus (walk_at "zkb")))
  | ((with_reducible apply s_rListOf); (focus (walk_at "zsq")))
  | ((with_reducible apply s_rTupleOf); (focus (walk_at "zsq")))
  | ((with_reducible apply s_rDivmod); (focus (walk_at "zside")))
  | ((with_reducible apply s_rRjust); (focus (exact rfl)))
  | ((with_reducible apply s_rEq); (focus (exact rfl)))
  | ((with_reducible apply s_rNe); (focus (exact rfl)))
  | with_reducible refine s_tB ?_
  | with_reducible refine s_tTest ?_
  | with_reducible refine s_bl ?_
  | with_reducible refine s_nil ?_
  | with_reducible refine s_cons ?_
  | with_reducible refine s_CB ?_
  | with_reducible refine s_call ?_
  | walk_at "zpull"
  | ((with_reducible apply use_int); (focus (walk_at "zbag")); intro _ _ _ _ _ _)
  | with_reducible refine s_seq ?_
  | ((with_reducible refine s_set ?_); try dsimp only [List.set_cons_zero, List.set_cons_succ])
  | with_reducible refine s_ifS ?_
  | with_reducible refine s_ret ?_
  | with_reducible refine s_drop ?_
  | with_reducible refine s_next ?_
  | with_reducible refine s_and ?_
  | with_reducible refine s_or ?_
  | with_reducible refine s_not ?_
  | with_reducible refine s_andV ?_
  | with_reducible refine s_orV ?_
  | with_reducible refine s_notV ?_
  | with_reducible refine s_ifE ?_
  | with_reducible refine s_un ?_
  | with_reducible refine s_rU ?_
  | with_reducible refine s_chain ?_
  | with_reducible refine s_tup ?_
  | with_reducible refine s_lst ?_
  | with_reducible refine s_sl ?_
  | with_reducible refine s_noPart ?_
  | with_reducible refine s_part ?_
  | with_reducible refine s_partI ?_
  | ((with_reducible refine s_gName ?_); try dsimp only [List.set_cons_zero, List.set_cons_succ])
  | with_reducible refine s_gSub ?_
  | ((with_reducible apply s_gTup); (focus (walk_at "zsq")); (focus (exact rfl)))
  | with_reducible refine s_gCons ?_
  | with_reducible refine s_gNil ?_
  | with_reducible refine s_asg ?_
  | with_reducible refine s_par ?_
  | ((with_reducible refine s_parI ?_); try dsimp only [List.set_cons_zero, List.set_cons_succ])
  | with_reducible refine s_fld ?_
  | with_reducible refine s_bm ?_
  | with_reducible refine s_bm0 ?_
  | with_reducible refine s_m0 ?_
  | with_reducible refine s_m1 ?_
  | with_reducible refine s_for ?_
  | with_reducible refine s_iRng1 ?_
  | with_reducible refine s_iRng2 ?_
  | with_reducible refine s_iList ?_
  | with_reducible refine s_iTup ?_
  | with_reducible refine s_iStr ?_
  | with_reducible refine s_iEnum ?_
  | with_reducible refine ite_t ?_
  | with_reducible refine ite_f ?_
  | with_reducible refine s_isStr ?_
  | with_reducible refine s_callS ?_
  | with_reducible refine s_rNotInS ?_
  | with_reducible refine s_rInS ?_
  | with_reducible refine s_tFmt ?_
  | with_reducible refine s_tFS ?_
  | with_reducible refine s_jsNil ?_
  | with_reducible refine s_jsCons ?_
  | with_reducible refine s_tRevL ?_
  | ((with_reducible apply s_revV); (focus (walk_at "zsq")))
  | with_reducible refine s_tyS ?_
  | ((with_reducible apply s_tyL); (focus (walk_at "zsq")))
  | ((with_reducible apply s_rRjust2); (focus (exact ⟨by decide, by decide⟩)))
  | with_reducible refine s_lc ?_
  | with_reducible refine s_yes ?_
  | ((with_reducible apply ite_fE); (focus (exact rfl)))
  | ((with_reducible apply ite_tE); (focus (exact rfl))))
local macro_rules | `(tactic| walk_at "z") => `(tactic| repeat (walk_at "z1"))

structure Tx (P : Program) (K : PySem.W.Frag) (mg : Str → Option Value) (w : World) where
  f_p_is_number : Addr
  d_p_is_number : FuncData
  F_p_is_number : Fun K "is_number" "is_number" s_p_is_number f_p_is_number d_p_is_number
  g_p_is_number : mg "is_number" = some (.ref f_p_is_number)
  b_p_is_number : Binds K d_p_is_number ["thing"] []
  f_p_is_good : Addr
  d_p_is_good : FuncData
  F_p_is_good : Fun K "is_good" "is_good" s_p_is_good f_p_is_good d_p_is_good
  g_p_is_good : mg "is_good" = some (.ref f_p_is_good)
  b_p_is_good : Binds K d_p_is_good ["kind", "number"] []
  f_p_holding : Addr
  d_p_holding : FuncData
  F_p_holding : Fun K "holding" "holding" s_p_holding f_p_holding d_p_holding
  g_p_holding : mg "holding" = some (.ref f_p_holding)
  b_p_holding : Binds K d_p_holding ["facts", "word", "gate", "day", "unsaid"] []
  f_p_toll_on : Addr
  d_p_toll_on : FuncData
  F_p_toll_on : Fun K "toll_on" "toll_on" s_p_toll_on f_p_toll_on d_p_toll_on
  g_p_toll_on : mg "toll_on" = some (.ref f_p_toll_on)
  b_p_toll_on : Binds K d_p_toll_on ["facts", "gate", "day"] []
  f_p_board_on : Addr
  d_p_board_on : FuncData
  F_p_board_on : Fun K "board_on" "board_on" s_p_board_on f_p_board_on d_p_board_on
  g_p_board_on : mg "board_on" = some (.ref f_p_board_on)
  b_p_board_on : Binds K d_p_board_on ["facts", "gate", "day"] []
  f_p_need_passing : Addr
  d_p_need_passing : FuncData
  F_p_need_passing : Fun K "need_passing" "need_passing" s_p_need_passing f_p_need_passing d_p_need_passing
  g_p_need_passing : mg "need_passing" = some (.ref f_p_need_passing)
  b_p_need_passing : Binds K d_p_need_passing ["facts", "number"] []
  f_p_fare : Addr
  d_p_fare : FuncData
  F_p_fare : Fun K "fare" "fare" s_p_fare f_p_fare d_p_fare
  g_p_fare : mg "fare" = some (.ref f_p_fare)
  b_p_fare : Binds K d_p_fare ["facts", "gate", "horses", "day"] []
  f_p_passings_on : Addr
  d_p_passings_on : FuncData
  F_p_passings_on : Fun K "passings_on" "passings_on" s_p_passings_on f_p_passings_on d_p_passings_on
  g_p_passings_on : mg "passings_on" = some (.ref f_p_passings_on)
  b_p_passings_on : Binds K d_p_passings_on ["facts", "carriage", "day"] []
  f_p_free_on : Addr
  d_p_free_on : FuncData
  F_p_free_on : Fun K "free_on" "free_on" s_p_free_on f_p_free_on d_p_free_on
  g_p_free_on : mg "free_on" = some (.ref f_p_free_on)
  b_p_free_on : Binds K d_p_free_on ["facts", "day"] []
  f_p_lost_minutes : Addr
  d_p_lost_minutes : FuncData
  F_p_lost_minutes : Fun K "lost_minutes" "lost_minutes" s_p_lost_minutes f_p_lost_minutes d_p_lost_minutes
  g_p_lost_minutes : mg "lost_minutes" = some (.ref f_p_lost_minutes)
  b_p_lost_minutes : Binds K d_p_lost_minutes ["facts"] []
  f_p_why : Addr
  d_p_why : FuncData
  F_p_why : Fun K "why" "why" s_p_why f_p_why d_p_why
  g_p_why : mg "why" = some (.ref f_p_why)
  b_p_why : Binds K d_p_why ["facts", "number"] []
  f_l_bag : Addr
  d_l_bag : FuncData
  F_l_bag : Fun K "_law_bag" "_law_bag" s_l_bag f_l_bag d_l_bag
  g_l_bag : mg "_law_bag" = some (.ref f_l_bag)
  b_l_bag : Binds K d_l_bag ["_law_script"] []
  f_l_pull : Addr
  d_l_pull : FuncData
  F_l_pull : Fun K "_law_pull" "_law_pull" s_l_pull f_l_pull d_l_pull
  g_l_pull : mg "_law_pull" = some (.ref f_l_pull)
  b_l_pull : Binds K d_l_pull ["_law_bag_here", "_law_amount"] []
  f_l_like : Addr
  d_l_like : FuncData
  F_l_like : Fun K "_law_like" "_law_like" s_l_like f_l_like d_l_like
  g_l_like : mg "_law_like" = some (.ref f_l_like)
  b_l_like : Binds K d_l_like ["_law_found", "_law_due"] []
  f_l_gate : Addr
  d_l_gate : FuncData
  F_l_gate : Fun K "_law_gate" "_law_gate" s_l_gate f_l_gate d_l_gate
  g_l_gate : mg "_law_gate" = some (.ref f_l_gate)
  b_l_gate : Binds K d_l_gate ["_law_bag_here"] []
  f_l_day : Addr
  d_l_day : FuncData
  F_l_day : Fun K "_law_day" "_law_day" s_l_day f_l_day d_l_day
  g_l_day : mg "_law_day" = some (.ref f_l_day)
  b_l_day : Binds K d_l_day ["_law_bag_here"] []
  f_l_board : Addr
  d_l_board : FuncData
  F_l_board : Fun K "_law_board" "_law_board" s_l_board f_l_board d_l_board
  g_l_board : mg "_law_board" = some (.ref f_l_board)
  b_l_board : Binds K d_l_board ["_law_bag_here"] []
  f_l_passing : Addr
  d_l_passing : FuncData
  F_l_passing : Fun K "_law_passing" "_law_passing" s_l_passing f_l_passing d_l_passing
  g_l_passing : mg "_law_passing" = some (.ref f_l_passing)
  b_l_passing : Binds K d_l_passing ["_law_bag_here"] []
  f_l_stretch : Addr
  d_l_stretch : FuncData
  F_l_stretch : Fun K "_law_stretch" "_law_stretch" s_l_stretch f_l_stretch d_l_stretch
  g_l_stretch : mg "_law_stretch" = some (.ref f_l_stretch)
  b_l_stretch : Binds K d_l_stretch ["_law_bag_here"] []
  f_l_fact : Addr
  d_l_fact : FuncData
  F_l_fact : Fun K "_law_fact" "_law_fact" s_l_fact f_l_fact d_l_fact
  g_l_fact : mg "_law_fact" = some (.ref f_l_fact)
  b_l_fact : Binds K d_l_fact ["_law_bag_here", "_law_amount"] []
  f_l_facts : Addr
  d_l_facts : FuncData
  F_l_facts : Fun K "_law_facts" "_law_facts" s_l_facts f_l_facts d_l_facts
  g_l_facts : mg "_law_facts" = some (.ref f_l_facts)
  b_l_facts : Binds K d_l_facts ["_law_bag_here", "_law_most"] []
  f_l_hold : Addr
  d_l_hold : FuncData
  F_l_hold : Fun K "_law_hold" "_law_hold" s_l_hold f_l_hold d_l_hold
  g_l_hold : mg "_law_hold" = some (.ref f_l_hold)
  b_l_hold : Binds K d_l_hold ["_law_facts_here", "_law_word", "_law_gate_here", "_law_day_here", "_law_other"] []
  f_l_clears : Addr
  d_l_clears : FuncData
  F_l_clears : Fun K "_law_clears" "_law_clears" s_l_clears f_l_clears d_l_clears
  g_l_clears : mg "_law_clears" = some (.ref f_l_clears)
  b_l_clears : Binds K d_l_clears ["_law_facts_here", "_law_gate_here", "_law_day_here"] []
  f_l_asked_toll : Addr
  d_l_asked_toll : FuncData
  F_l_asked_toll : Fun K "_law_asked_toll" "_law_asked_toll" s_l_asked_toll f_l_asked_toll d_l_asked_toll
  g_l_asked_toll : mg "_law_asked_toll" = some (.ref f_l_asked_toll)
  b_l_asked_toll : Binds K d_l_asked_toll ["_law_facts_here", "_law_gate_here", "_law_day_here", "_law_horses"] []
  f_l_free : Addr
  d_l_free : FuncData
  F_l_free : Fun K "_law_free" "_law_free" s_l_free f_l_free d_l_free
  g_l_free : mg "_law_free" = some (.ref f_l_free)
  b_l_free : Binds K d_l_free ["_law_facts_here", "_law_carriage", "_law_gate_here", "_law_day_here"] []
  f_l_bar : Addr
  d_l_bar : FuncData
  F_l_bar : Fun K "_law_bar" "_law_bar" s_l_bar f_l_bar d_l_bar
  g_l_bar : mg "_law_bar" = some (.ref f_l_bar)
  b_l_bar : Binds K d_l_bar ["_law_facts_here", "_law_ticket", "_law_day_here", "_law_minute", "_law_gate_here", "_law_horses"] []
  f_l_walk : Addr
  d_l_walk : FuncData
  F_l_walk : Fun K "_law_walk" "_law_walk" s_l_walk f_l_walk d_l_walk
  g_l_walk : mg "_law_walk" = some (.ref f_l_walk)
  b_l_walk : Binds K d_l_walk ["_law_facts_here", "_law_carriage", "_law_day_here"] []
  f_l_rows : Addr
  d_l_rows : FuncData
  F_l_rows : Fun K "_law_rows" "_law_rows" s_l_rows f_l_rows d_l_rows
  g_l_rows : mg "_law_rows" = some (.ref f_l_rows)
  b_l_rows : Binds K d_l_rows ["_law_facts_here"] []
  f_l_told : Addr
  d_l_told : FuncData
  F_l_told : Fun K "_law_told" "_law_told" s_l_told f_l_told d_l_told
  g_l_told : mg "_law_told" = some (.ref f_l_told)
  b_l_told : Binds K d_l_told ["_law_facts_here", "_law_number"] []
  f_l_far : Addr
  d_l_far : FuncData
  F_l_far : Fun K "_law_far" "_law_far" s_l_far f_l_far d_l_far
  g_l_far : mg "_law_far" = some (.ref f_l_far)
  b_l_far : Binds K d_l_far ["_law_bag_here"] []
  z_len : mg "len" = none
  z_isinstance : mg "isinstance" = none
  z_tuple : mg "tuple" = none
  z_list : mg "list" = none
  z_bool : mg "bool" = none
  z_range : mg "range" = none
  z_int : mg "int" = none
  z_set : mg "set" = none
  z_sorted : mg "sorted" = none
  z_min : mg "min" = none
  z_all : mg "all" = none
  t_WEEK : Tok
  k_WEEK : mg "WEEK" = some (.int 7 t_WEEK)
  t_SUNDAY : Tok
  k_SUNDAY : mg "SUNDAY" = some (.int 6 t_SUNDAY)
  B_BOUNDS : Addr
  g_BOUNDS : mg "BOUNDS" = some (.ref B_BOUNDS)
  t_BOUNDS_number : Addr
  kd_BOUNDS_number : KDct K w B_BOUNDS "number" (.ref t_BOUNDS_number)
  kt_BOUNDS_number : ∀ {H : Hp}, SqT K H t_BOUNDS_number [.int 1, .non]
  C_Missing : Addr
  g_Missing : mg "Missing" = some (.ref C_Missing)
  C_NoPassing : Addr
  g_NoPassing : mg "NoPassing" = some (.ref C_NoPassing)
  f_c_Missing_init : Addr
  d_c_Missing_init : FuncData
  cda_c_Missing_init : Addr
  cc_c_Missing_init : Addr
  FS_c_Missing_init : FunS P K mg "__init__" "Missing.__init__" s_c_Missing_init f_c_Missing_init d_c_Missing_init cda_c_Missing_init cc_c_Missing_init C_Missing
  b_c_Missing_init : Binds K d_c_Missing_init ["self", "number"] []
  pk_NoPassing : PkC K true C_Missing C_NoPassing "NoPassing"
  in_NoPassing : PySem.W.findIn K (.ref C_NoPassing) "__init__" = some (some (.ref f_c_Missing_init))
  no_NoPassing : PySem.W.findIn K (.ref C_NoPassing) "number" = some none
  e_NoPassing : PySem.W.exmOne K (.ref C_NoPassing) (.ref C_NoPassing) = some true
  xf_NoPassing : XfC K C_NoPassing
  C_CarriageDay : Addr
  g_CarriageDay : mg "CarriageDay" = some (.ref C_CarriageDay)
  cls_CarriageDay : Cls K C_CarriageDay
  f_c_CarriageDay_init : Addr
  d_c_CarriageDay_init : FuncData
  F_c_CarriageDay_init : Fun K "__init__" "CarriageDay.__init__" s_c_CarriageDay_init f_c_CarriageDay_init d_c_CarriageDay_init
  b_c_CarriageDay_init : Binds K d_c_CarriageDay_init ["self", "facts", "carriage", "day"] []
  at_c_CarriageDay_init : PySem.W.findIn K (.ref C_CarriageDay) "__init__" = some (some (.ref f_c_CarriageDay_init))
  fn_c_CarriageDay_init : PySem.W.isFn K (.ref f_c_CarriageDay_init) = true
  mk_CarriageDay : Mk K C_CarriageDay f_c_CarriageDay_init
  f_c_CarriageDay_hindrance : Addr
  d_c_CarriageDay_hindrance : FuncData
  F_c_CarriageDay_hindrance : Fun K "hindrance" "CarriageDay.hindrance" s_c_CarriageDay_hindrance f_c_CarriageDay_hindrance d_c_CarriageDay_hindrance
  b_c_CarriageDay_hindrance : Binds K d_c_CarriageDay_hindrance ["self", "ticket", "passing"] []
  at_c_CarriageDay_hindrance : PySem.W.findIn K (.ref C_CarriageDay) "hindrance" = some (some (.ref f_c_CarriageDay_hindrance))
  fn_c_CarriageDay_hindrance : PySem.W.isFn K (.ref f_c_CarriageDay_hindrance) = true
  f_c_CarriageDay_told_row : Addr
  d_c_CarriageDay_told_row : FuncData
  F_c_CarriageDay_told_row : Fun K "told_row" "CarriageDay.told_row" s_c_CarriageDay_told_row f_c_CarriageDay_told_row d_c_CarriageDay_told_row
  b_c_CarriageDay_told_row : Binds K d_c_CarriageDay_told_row ["self", "passing", "checks"] []
  at_c_CarriageDay_told_row : PySem.W.findIn K (.ref C_CarriageDay) "told_row" = some (some (.ref f_c_CarriageDay_told_row))
  fn_c_CarriageDay_told_row : PySem.W.isFn K (.ref f_c_CarriageDay_told_row) = true
  f_c_CarriageDay_walk : Addr
  d_c_CarriageDay_walk : FuncData
  F_c_CarriageDay_walk : Fun K "walk" "CarriageDay.walk" s_c_CarriageDay_walk f_c_CarriageDay_walk d_c_CarriageDay_walk
  b_c_CarriageDay_walk : Binds K d_c_CarriageDay_walk ["self"] []
  at_c_CarriageDay_walk : PySem.W.findIn K (.ref C_CarriageDay) "walk" = some (some (.ref f_c_CarriageDay_walk))
  fn_c_CarriageDay_walk : PySem.W.isFn K (.ref f_c_CarriageDay_walk) = true
  na_CarriageDay_all_facts : NoAttr K C_CarriageDay "all_facts"
  na_CarriageDay_carriage : NoAttr K C_CarriageDay "carriage"
  na_CarriageDay_day : NoAttr K C_CarriageDay "day"
  na_CarriageDay_order : NoAttr K C_CarriageDay "order"
  na_CarriageDay_free : NoAttr K C_CarriageDay "free"
  na_CarriageDay_lost : NoAttr K C_CarriageDay "lost"
  na_CarriageDay_boards : NoAttr K C_CarriageDay "boards"
  ty_CarriageDay : ∀ {H : Hp} {a dx : Addr} {fs : List (Str × V)}, H a = some (.ins C_CarriageDay dx fs) → TyX K H (.ref a) (.ref C_CarriageDay)
  ko_CarriageDay : PySem.W.kitOne K (.ref C_CarriageDay) (.ref C_CarriageDay) = some true
  nf_CarriageDay : PySem.W.notFirst K C_CarriageDay (.ref C_CarriageDay) = true
section
variable {P : Program} {w : World} {K : PySem.W.Frag} {mg : Str → Option Value} {base : Heap}
/-! own exceptions: what their __init__ leave -/
theorem sc_c_Missing_init : NdefX.NScope ["self", "number", "__class__"] ["self", "number"] ["__class__"] (defScope s_c_Missing_init) := NdefX.nscope_by (by decide +kernel)
theorem ok_c_Missing_init (T : Tx P K mg w) : FnOk P w K mg base CX0 1 T.f_c_Missing_init T.d_c_Missing_init ["self", "number"] (spMiss K T.C_Missing) := by
  refine T.FS_c_Missing_init.ok (N := ["self", "number", "__class__"]) (k := 0) rfl sc_c_Missing_init (fun vs H Q E h => ?_) (fun A outer s H vs Q E hr h => ?_)
  · obtain ⟨a, C, nm, n, rfl, _⟩ := h
    rfl
  · obtain ⟨a, C, nm, n, rfl, ea, T1, hno, hz, k⟩ := h
    have hn := PyProof.Rows.int_text_len_1921 hz
    refine ⟨_, _, ps_supB (T.FS_c_Missing_init.sup (sf := "self") (i := 0) (j := 2) rfl rfl rfl rfl rfl rfl) (pa_cons (pz_fstr (PJ.cons pe_str (PJ.cons (pe_fmt (pv 1)) PJ.nil))) pa_nil), pss_cons (ps_osX (pv 0) (pe_cnm (pv 0))) (pss_one (ps_osX (pv 0) (pv 1))), ?_⟩
    refine ⟨a, C, _, true, rfl, rfl, ea, T1.ox, T1.sc, T1.si, T1.sb, ?_⟩
    walk_at "z"
    refine s_jsV (by rw [Str_len_app]; exact sz (by decide +kernel)) ?_
    walk_at "z"
    refine s_fmtI hz ?_
    refine s_jsV (by rw [Str_len_app, Str_len_app, show Str.empty.length + (Str.ofString "there is no ").length = 12 from by decide +kernel]; exact sz (by omega)) ?_
    walk_at "z"
    refine ⟨by show 1 ≤ 1000; decide, ea, ?_⟩
    refine ⟨.ref a, rfl, a, C, nm, rfl, ea, T1.nc, ?_⟩
    refine ⟨.ref a, rfl, a, C, true, rfl, T1.ox, T1.no, .inl ⟨ea, fun dx n1 ne => ?_⟩⟩
    refine ⟨.int n, rfl, .ref a, rfl, a, C, true, rfl, T1.ox, hno, .inr ⟨dx, _, upd_same, ?_, by show 1 ≤ 900; decide, k dx n1 ne⟩⟩
    rw [upd_ne ne, upd_same]

theorem sc_l_pull : FnScope ["_law_bag_here", "_law_amount", "_law_cell", "_law_got", "_law_seed"] ["_law_bag_here", "_law_amount"] (defScope s_l_pull) :=
  ⟨rfl, rfl, rfl, by decide +kernel, rfl, by decide +kernel, by decide +kernel⟩
theorem ok_l_pull (T : Tx P K mg w) : FnOk P w K mg base CX0 1 T.f_l_pull T.d_l_pull ["_law_bag_here", "_law_amount"] spPull := by
  refine T.F_l_pull.ok sc_l_pull (fun vs H Q E h => ?_) (fun cdv A outer s H vs Q E hr h => ?_)
  · obtain ⟨b, c, n, rfl, _⟩ := h
    rfl
  · obtain ⟨b, c, n, rfl, B, n0, n1, k⟩ := h
    have cb : c ≠ b := B.cb
    obtain ⟨cells, i, big, salt, hb, hc, hi, hg, hs0, hs1⟩ := B.ex
    refine ⟨_, (Evl.pss_cut (ps_if (PW.pt (pw_and (pt_cmpR op_eq (pe_ix (r := rIxL K) ix_list (pv 0) pe_int (fun _ _ => rfl)) pe_int (nomark _)) (pw_and1 (pt_cmpR op_lt (pe_ix (r := rIxL K) ix_list (pv 0) pe_int (fun _ _ => rfl)) (pe_callB (r := Z.rLen K) cz_len (by rfl) T.z_len PySem.boot_len (pa_cons (pe_ix (r := rIxL K) ix_list (pv 0) pe_int (fun _ _ => rfl)) pa_nil)) (nomark _))))) (pss_cons (ps_set (i := 2) sc_l_pull.nd rfl (Or.inl rfl) (pe_ix (r := rIxL K) ix_list (pe_ix (r := rIxL K) ix_list (pv 0) pe_int (fun _ _ => rfl)) (pe_ix (r := rIxL K) ix_list (pv 0) pe_int (fun _ _ => rfl)) (fun _ _ => rfl))) (pss_cons (ps_asg (pe_op op_add (pe_ix (r := rIxL K) ix_list (pv 0) pe_int (fun _ _ => rfl)) pe_int) (pg_sub (pv 0) pe_int set_list)) (pss_one (ps_if (pt_cmpR op_ge (pv 2) (pe_op op_pow pe_int pe_int) (nomark _)) (pss_one (ps_asg (pv 2) (pg_sub (pv 0) pe_int set_list))) (pss_one (ps_asg (pe_op op_mod (pe_op op_add (pe_op op_add (pe_op op_mul (pe_ix (r := rIxL K) ix_list (pv 0) pe_int (fun _ _ => rfl)) pe_int) (pe_op op_mul (pe_op op_mod (pv 2) pe_int) pe_int)) pe_int) pe_int) (pg_sub (pv 0) pe_int set_list))))))) pss_nil) (pss_cons (ps_if (pt_cmpR op_gt (pe_ix (r := rIxL K) ix_list (pv 0) pe_int (fun _ _ => rfl)) pe_int (nomark _)) (pss_cons (ps_set (i := 3) sc_l_pull.nd rfl (Or.inl rfl) (pe_op op_mod (pe_ix (r := rIxL K) ix_list (pv 0) pe_int (fun _ _ => rfl)) (pv 1))) (pss_cons (ps_asg (pe_op op_fdivW (pe_ix (r := rIxL K) ix_list (pv 0) pe_int (fun _ _ => rfl)) (pv 1)) (pg_sub (pv 0) pe_int set_list)) (pss_one (ps_ret (pv 3))))) pss_nil) (pss_cons (ps_set (i := 4) sc_l_pull.nd rfl (Or.inl rfl) (pe_ix (r := rIxL K) ix_list (pv 0) pe_int (fun _ _ => rfl))) (pss_cons (ps_asg (pe_op op_mod (pe_op op_add (pe_op op_add (pe_op op_mul (pv 4) pe_int) (pe_op op_mul (pe_op op_fdiv (pv 4) pe_int) pe_int)) pe_int) pe_int) (pg_sub (pv 0) pe_int set_list)) (pss_one (ps_ret (pe_op op_mod (pe_op op_add (pe_op op_fdiv (pe_ix (r := rIxL K) ix_list (pv 0) pe_int (fun _ _ => rfl)) pe_int) (pe_op op_mul (pe_op op_mod (pe_ix (r := rIxL K) ix_list (pv 0) pe_int (fun _ _ => rfl)) pe_int) pe_int)) (pv 1)))))))), ?_⟩
    refine at_start (ρ' := [some _, some _, none, none, none]) rfl ?_
    walk_at "z0"
    refine s_cut (fun ρ H' => ∃ v, ρ = [some (.ref b), some (.int n), v, none, none] ∧ Bag H' b c ∧ Fr b H H') ?_ ?_
    · walk_at "z"
      refine ite_dec (fun h0 => ?_) (fun h0 => ?_)
      · walk_at "z"
        refine ite_dec (fun h1 => ?_) (fun h1 => ?_)
        · rw [List.length_map] at h1
          have h2 : i < cells.length := by omega
          walk_at "z"
          refine s_ixL (SqL.of hc) (atI_nat (v := .int (cells[i])) (by rw [List.getElem?_map, List.getElem?_eq_getElem h2]; rfl)) ?_
          walk_at "z"
          refine s_setN hb (m := 1) rfl [.ref c, .int ((i + 1 : Nat) : Int), .int big, .int salt] rfl fun H1 e1 hb1 => ?_
          have hc1 := e1 _ _ cb hc
          walk_at "z"
          refine ite_dec (fun h3 => ?_) (fun h3 => ?_)
          · walk_at "z"
            refine s_setN hb1 (m := 2) rfl [.ref c, .int ((i + 1 : Nat) : Int), .int (cells[i]), .int salt] rfl fun H2 e2 hb2 => ?_
            have h3 : (10 : Int) ^ 18 ≤ cells[i] := h3
            exact ⟨_, rfl, .mk' hb2 (e2 _ _ cb hc1) h2 (by omega) ⟨hs0, hs1⟩, e1.trans e2⟩
          · walk_at "z"
            refine s_setN hb1 (m := 3) rfl [.ref c, .int ((i + 1 : Nat) : Int), .int big, .int _] rfl fun H2 e2 hb2 => ?_
            exact ⟨_, rfl, .mk' hb2 (e2 _ _ cb hc1) h2 hg ⟨Int.emod_nonneg _ (by decide), Int.emod_lt_of_pos _ (by decide)⟩, e1.trans e2⟩
        · walk_at "z"
          exact ⟨_, rfl, B, Fr.refl⟩
      · walk_at "z"
        exact ⟨_, rfl, B, Fr.refl⟩
    · rintro ρ H1 ⟨v, rfl, B1, e1⟩
      obtain ⟨cells, i, big, salt, hb, hc, hi, hg, hs0, hs1⟩ := B1.ex
      walk_at "z"
      refine ite_dec (fun h0 => ?_) (fun h0 => ?_)
      · walk_at "z"
        refine s_rI (wide_div n0 (b := 200) (by omega) (by decide) (by decide)) ?_
        walk_at "z"
        refine s_setN hb (m := 2) rfl [.ref c, .int (i : Int), .int (big / n), .int salt] rfl fun H2 e2 hb2 => ?_
        walk_at "z"
        exact k _ _ (Int.emod_nonneg _ (by omega)) (Int.emod_lt_of_pos _ n0) (.mk' hb2 (e2 _ _ cb hc) hi (Int.ediv_nonneg hg (by omega)) ⟨hs0, hs1⟩) (e1.trans e2)
      · walk_at "z"
        refine s_setN hb (m := 3) rfl [.ref c, .int (i : Int), .int big, .int _] rfl fun H2 e2 hb2 => ?_
        walk_at "z"
        exact k _ _ (Int.emod_nonneg _ (by omega)) (Int.emod_lt_of_pos _ n0) (.mk' hb2 (e2 _ _ cb hc) hi hg ⟨Int.emod_nonneg _ (by decide), Int.emod_lt_of_pos _ (by decide)⟩) (e1.trans e2)

theorem sc_l_bag : FnScope ["_law_script", "_law_salt", "_law_cell"] ["_law_script"] (defScope s_l_bag) :=
  ⟨rfl, rfl, rfl, by decide +kernel, rfl, by decide +kernel, by decide +kernel⟩
theorem ok_l_bag (T : Tx P K mg w) : FnOk P w K mg base CX0 1 T.f_l_bag T.d_l_bag ["_law_script"] (spBag K) := by
  refine T.F_l_bag.ok sc_l_bag (fun vs H Q E h => ?_) (fun cdv A outer s H vs Q E hr h => ?_)
  · obtain ⟨a, ns, rfl, _⟩ := h
    rfl
  · obtain ⟨a, ns, rfl, hS, hl, k⟩ := h
    refine ⟨_, (pss_cons (ps_set (i := 1) sc_l_bag.nd rfl (Or.inl rfl) pe_int) (pss_cons (ps_for PassesOwn.never rfl (pi_list (pe_slice (r := rSlL K) sl_list (pv 0) po_none (po_some pe_int))) (pg_name (i := 2) sc_l_bag.nd rfl (Or.inl rfl)) (pss_one (ps_set (i := 1) sc_l_bag.nd rfl (Or.inl rfl) (pe_op op_mod (pe_op op_add (pe_op op_add (pe_op op_mul (pv 1) pe_int) (pe_op op_mod (pv 2) pe_int)) pe_int) pe_int)))) (pss_one (ps_ret (pe_lst (pa_cons (pe_callTy (r := rListOf K) cz_listOf (by rfl) T.z_list (by decide +kernel) (pa_cons (pe_slice (r := rSlL K) sl_list (pv 0) po_none (po_some pe_int)) pa_nil)) (pa_cons pe_int (pa_cons pe_int (pa_cons (pv 1) pa_nil))))))))), ?_⟩
    refine at_start (ρ' := [some _, none, none]) rfl ?_
    walk_at "z0"
    walk_at "z"
    rename_i p H1 _ e1 hp
    rw [cut63 (by rw [List.length_map]; exact hl)] at hp
    refine l_list (ns.map V.int) (fun i σ H' => ∃ (z : Int) (v : Option V), σ = [some (.ref a), some (.int z), v] ∧ H' = H1 ∧ 0 ≤ z ∧ z < 2147483647) ⟨977, none, rfl, rfl, by decide, by decide⟩ (fun i σ H' _ h => by
      obtain ⟨_, _, _, rfl, _⟩ := h
      exact .of hp) (fun i x σ H' hx h => ?_) (fun σ H' h => ?_)
    · obtain ⟨z, v, rfl, rfl, h0, h1⟩ := h
      obtain ⟨y, rfl⟩ := map_int_get hx
      walk_at "z"
      exact ⟨_, _, rfl, rfl, Int.emod_nonneg _ (by decide), Int.emod_lt_of_pos _ (by decide)⟩
    · obtain ⟨z, v, rfl, rfl, h0, h1⟩ := h
      walk_at "z"
      rename_i q H2 nq e2 hq c H3 nc e3 hc b H4 nb e4 hb
      rw [cut63 (by rw [List.length_map]; exact hl)] at hc
      refine k b c H4 (Ex.back (by walk_at "zex") nb) (Ex.back (by walk_at "zex") nc) (by walk_at "zex") (.mk' (i := 0) hb (e4 _ _ hc) (Nat.zero_le _) (Int.le_refl _) ⟨h0, h1⟩)

theorem sc_l_like : FnScope ["_law_found", "_law_due", "_law_k"] ["_law_found", "_law_due"] (defScope s_l_like) :=
  ⟨rfl, rfl, rfl, by decide +kernel, rfl, by decide +kernel, by decide +kernel⟩
theorem ok_l_like (T : Tx P K mg w) : ∀ n, FnOk P w K mg base CX0 n T.f_l_like T.d_l_like ["_law_found", "_law_due"] (spLike K n)
  | 0 => fnOk_no like_no
  | n + 1 => by
    have IH := ok_l_like T n
    refine T.F_l_like.ok sc_l_like (fun vs H Q E h => ?_) (fun cdv A outer s H vs Q E hr h => ?_)
    · obtain ⟨x, y, d, rfl, _⟩ := h
      rfl
    · obtain ⟨x, y, d, rfl, dx, dy, ok, k⟩ := h
      refine ⟨_, (pss_cons (ps_if (PW.pt (pw_or (pt_cmpR op_ne (pe_callB (r := rIsi K) call_isi (by rfl) T.z_isinstance (by decide +kernel) (pa_cons (pv 1) (pa_cons (pe_bltn (v := .ty "tuple") rfl T.z_tuple (by decide +kernel) rfl) pa_nil))) (pe_callB (r := rIsi K) call_isi (by rfl) T.z_isinstance (by decide +kernel) (pa_cons (pv 0) (pa_cons (pe_bltn (v := .ty "tuple") rfl T.z_tuple (by decide +kernel) rfl) pa_nil))) (nomark _)) (pw_or1 (pt_cmpR op_ne (pe_callB (r := rIsi K) call_isi (by rfl) T.z_isinstance (by decide +kernel) (pa_cons (pv 1) (pa_cons (pe_bltn (v := .ty "list") rfl T.z_list (by decide +kernel) rfl) pa_nil))) (pe_callB (r := rIsi K) call_isi (by rfl) T.z_isinstance (by decide +kernel) (pa_cons (pv 0) (pa_cons (pe_bltn (v := .ty "list") rfl T.z_list (by decide +kernel) rfl) pa_nil))) (nomark _))))) (pss_one (ps_ret pe_bl)) pss_nil) (pss_cons (ps_if (pt_not (pt_val (pe_callB (r := rIsiT K) call_isiT (by rfl) T.z_isinstance (by decide +kernel) (pa_cons (pv 1) (pa_cons (pe_tup (pa_cons (pe_bltn (v := .ty "tuple") rfl T.z_tuple (by decide +kernel) rfl) (pa_cons (pe_bltn (v := .ty "list") rfl T.z_list (by decide +kernel) rfl) pa_nil))) pa_nil))))) (pss_one (ps_ret (pe_and (pe_cmpR op_eq (pe_callB (r := rIsi K) call_isi (by rfl) T.z_isinstance (by decide +kernel) (pa_cons (pv 0) (pa_cons (pe_bltn (v := .ty "bool") rfl T.z_bool (by decide +kernel) rfl) pa_nil))) (pe_callB (r := rIsi K) call_isi (by rfl) T.z_isinstance (by decide +kernel) (pa_cons (pv 1) (pa_cons (pe_bltn (v := .ty "bool") rfl T.z_bool (by decide +kernel) rfl) pa_nil))) (nomark _)) (pe_one (pe_cmpR op_eq (pv 0) (pv 1) (nomark _)))))) pss_nil) (pss_one (ps_ret (pe_and (pe_cmpR op_eq (pe_callB (r := Z.rLen K) cz_len (by rfl) T.z_len PySem.boot_len (pa_cons (pv 0) pa_nil)) (pe_callB (r := Z.rLen K) cz_len (by rfl) T.z_len PySem.boot_len (pa_cons (pv 1) pa_nil)) (nomark _)) (pe_one (pe_callB (r := rAll K) (cr_all rfl) (by rfl) T.z_all (by decide +kernel) (pa_cons (pe_lc (own := [("_law_k", 2)]) (by rfl) sc_l_like.nd (pi_range1 (by rfl) T.z_range (pa_cons (pe_callB (r := Z.rLen K) cz_len (by rfl) T.z_len PySem.boot_len (pa_cons (pv 1) pa_nil)) pa_nil)) (blkOk_by (own := [("_law_k", 2)]) (N := ["_law_found", "_law_due", "_law_k"]) (sc := defScope s_l_like) (by decide +kernel)) (fun _ _ _ _ _ => (pg_name (i := 2) sc_l_like.nd rfl (Or.inl rfl))) (fun _ _ _ _ _ => pts_nil) (fun _ _ _ _ _ => (pe_call IH hr rfl T.g_l_like T.F_l_like.kp T.b_l_like .nil pass0 (pa_cons (pe_ix (r := rIx K) ix_seq (pv 0) (pv 2) (fun _ _ => rfl)) (pa_cons (pe_ix (r := rIx K) ix_seq (pv 1) (pv 2) (fun _ _ => rfl)) pa_nil))))) pa_nil)))))))), ?_⟩
      refine at_start (ρ' := [some _, some _, none]) rfl ?_
      walk_at "z0"
      cases dx with
      | int i =>
        cases dy
        walk_at "z"
        exact ev_blT (by simp) (k _ (by walk_at "zex"))
      | bl i =>
        cases dy
        walk_at "z"
        exact ev_blT (by simp) (k _ (by walk_at "zex"))
      | str i =>
        cases dy
        walk_at "z"
        exact ev_blT (by simp) (k _ (by walk_at "zex"))
      | non =>
        cases dy
        walk_at "z"
        exact ev_blT (by simp) (k _ (by walk_at "zex"))
      | lst hx rx =>
        rename_i a xs ds
        cases dy with
        | lst hy ry =>
        rename_i b ys
        obtain ⟨hlen, hds⟩ := ok
        have l1 := dpAll_len rx
        have l2 := dpAll_len ry
        walk_at "z"
        refine ite_pos (by omega) ?_
        walk_at "z"
        rename_i H1 _ e1 _
        refine c_range (by omega) (fun D H' => H1 D = none ∧ Ex H1 H') (fun D i l H' => l = List.replicate i (.bl true)) (fun D H' n e _ => ⟨⟨n, e⟩, rfl⟩) (fun D i l H2 hi e2 hl hz r => ?_) (fun D l H2 e2 hl hz r => ?_)
        · obtain ⟨nD, e2⟩ := e2
          have i1 : i < xs.length := by omega
          have i2 : i < ys.length := by omega
          have i3 : i < ds.length := by omega
          walk_at "z"
          refine ⟨rfl, ?_⟩
          walk_at "z"
          refine Or.inl ⟨_, _, _, _, rfl, rfl, (Ex.sqL (by walk_at "zex") hx), atI_nat (List.getElem?_eq_getElem i1), ?_⟩
          walk_at "z"
          refine Or.inl ⟨_, _, _, _, rfl, rfl, (Ex.sqL (by walk_at "zex") hy), atI_nat (List.getElem?_eq_getElem i2), ?_⟩
          walk_at "z"
          refine ⟨_, _, ds[i], rfl, dp_ex (by walk_at "zex") (dpAll_get rx (List.getElem?_eq_getElem i1) (List.getElem?_eq_getElem i3)), dp_ex (by walk_at "zex") (dpAll_get ry (List.getElem?_eq_getElem i2) (List.getElem?_eq_getElem i3)), hds _ (List.getElem_mem i3), fun H3 e3 => ?_⟩
          exact c_put (e3 _ _ hl) (by omega) fun H5 f5 _ => ⟨⟨nD, fun q o hq => f5 _ _ (ne_of_none hq nD) (e3 _ _ (e2 _ _ hq))⟩, by rw [r, List.replicate_succ']⟩
        · obtain ⟨nD, e2⟩ := e2
          walk_at "z"
          refine s_rAll (List.replicate ys.length true) (SqL.of hl) (by rw [r, List.map_replicate]; simp) ?_
          exact ev_blT (by simp) (k _ (by walk_at "zex"))
      | tup hx rx =>
        rename_i a xs ds
        cases dy with
        | tup hy ry =>
        rename_i b ys
        obtain ⟨hlen, hds⟩ := ok
        have l1 := dpAll_len rx
        have l2 := dpAll_len ry
        walk_at "z"
        refine ite_pos (by omega) ?_
        walk_at "z"
        rename_i H1 _ e1 _
        refine c_range (by omega) (fun D H' => H1 D = none ∧ Ex H1 H') (fun D i l H' => l = List.replicate i (.bl true)) (fun D H' n e _ => ⟨⟨n, e⟩, rfl⟩) (fun D i l H2 hi e2 hl hz r => ?_) (fun D l H2 e2 hl hz r => ?_)
        · obtain ⟨nD, e2⟩ := e2
          have i1 : i < xs.length := by omega
          have i2 : i < ys.length := by omega
          have i3 : i < ds.length := by omega
          walk_at "z"
          refine ⟨rfl, ?_⟩
          walk_at "z"
          refine Or.inr (Or.inl ⟨_, _, _, _, rfl, rfl, (Ex.sqT (by walk_at "zex") hx), atI_nat (List.getElem?_eq_getElem i1), ?_⟩)
          walk_at "z"
          refine Or.inr (Or.inl ⟨_, _, _, _, rfl, rfl, (Ex.sqT (by walk_at "zex") hy), atI_nat (List.getElem?_eq_getElem i2), ?_⟩)
          walk_at "z"
          refine ⟨_, _, ds[i], rfl, dp_ex (by walk_at "zex") (dpAll_get rx (List.getElem?_eq_getElem i1) (List.getElem?_eq_getElem i3)), dp_ex (by walk_at "zex") (dpAll_get ry (List.getElem?_eq_getElem i2) (List.getElem?_eq_getElem i3)), hds _ (List.getElem_mem i3), fun H3 e3 => ?_⟩
          exact c_put (e3 _ _ hl) (by omega) fun H5 f5 _ => ⟨⟨nD, fun q o hq => f5 _ _ (ne_of_none hq nD) (e3 _ _ (e2 _ _ hq))⟩, by rw [r, List.replicate_succ']⟩
        · obtain ⟨nD, e2⟩ := e2
          walk_at "z"
          refine s_rAll (List.replicate ys.length true) (SqL.of hl) (by rw [r, List.map_replicate]; simp) ?_
          exact ev_blT (by simp) (k _ (by walk_at "zex"))

/-! facts as data -/
inductive Arg where
  | i (n : Int)
  | t (l : List Int)
def Arg.enc : Arg → PyData
  | .i n => .int n
  | .t l => .tuple (l.map PyData.int)
structure Fct where
  w : Str
  xs : List Arg
def Fct.enc (f : Fct) : PyData := .tuple (.str f.w :: f.xs.map Arg.enc)
def Rising (l : List Int) : Prop := l.Pairwise (· < ·)
inductive GF : Fct → Prop
  | toll {g d h : Int} : R 0 7 g → R 0 999 d → R 0 48 h → GF ⟨"toll", [.i g, .i d, .i h]⟩
  | board {g d : Int} {gs : List Int} : R 0 7 g → R 0 999 d → Rising gs → (∀ x ∈ gs, R 0 7 x) → GF ⟨"board", [.i g, .i d, .t gs]⟩
  | trust {g d t : Int} : R 0 7 g → R 0 999 d → R 0 3 t → GF ⟨"trust", [.i g, .i d, .i t]⟩
  | folk {c a b : Int} : R 0 9 c → R 0 999 a → R 0 999 b → GF ⟨"folk", [.i c, .i a, .i b]⟩
  | bargain {g c a b : Int} : R 0 7 g → R 0 9 c → R 0 999 a → R 0 999 b → GF ⟨"bargain", [.i g, .i c, .i a, .i b]⟩
  | pass {d m g c h : Int} : R 0 999 d → R 0 1439 m → R 0 7 g → R 0 9 c → R 1 8 h → GF ⟨"pass", [.i d, .i m, .i g, .i c, .i h]⟩
  | lost {n m : Int} : 1 ≤ n → R 0 1439 m → GF ⟨"lost", [.i n, .i m]⟩
  | paid {c d h : Int} : R 0 9 c → R 0 999 d → R 0 100000 h → GF ⟨"paid", [.i c, .i d, .i h]⟩
/-- a lost ticket's number is no far one -/
def LB (f : Fct) : Prop := ∀ n m, f.xs = [.i n, .i m] → n ≤ 2000
def spFct (K : PySem.W.Frag) : Sp := fun vs H Q _ => ∃ b c : Addr, vs = [.ref b] ∧ Bag H b c ∧ ∀ v f H', GF f → Dp K H' v f.enc → Bag H' b c → Fr b H H' → LB f → Q v H'
theorem b01 (c : Bool) : (if c = true then (1 : Int) else 0) = 1 ∨ (if c = true then (1 : Int) else 0) = 0 := by cases c <;> simp
theorem i4 {z : Int} (h0 : 0 ≤ z) (h1 : z < 4) : z = 0 ∨ z = 1 ∨ z = 2 ∨ z = 3 := by omega
theorem i3 {z : Int} (h0 : 0 ≤ z) (h1 : z < 3) : z = 0 ∨ z = 1 ∨ z = 2 := by omega
theorem i2 {z : Int} (h0 : 0 ≤ z) (h1 : z < 2) : z = 0 ∨ z = 1 := by omega
theorem sc_l_gate : FnScope ["_law_bag_here"] ["_law_bag_here"] (defScope s_l_gate) :=
  ⟨rfl, rfl, rfl, by decide +kernel, rfl, by decide +kernel, by decide +kernel⟩
theorem ok_l_gate (T : Tx P K mg w) : FnOk P w K mg base CX0 2 T.f_l_gate T.d_l_gate ["_law_bag_here"] (spInt 0 7) := by
  refine T.F_l_gate.ok sc_l_gate (fun vs H Q E h => ?_) (fun cdv A outer s H vs Q E hr h => ?_)
  · obtain ⟨b, c, rfl, _⟩ := h
    rfl
  · obtain ⟨b, c, rfl, B, k⟩ := h
    refine ⟨_, (pss_one (ps_ret (pe_call (ok_l_pull T) (hr.mono (by decide)) rfl T.g_l_pull T.F_l_pull.kp T.b_l_pull .nil pass0 (pa_cons (pv 0) (pa_cons (pe_ix (r := rIxT K) ix_tup (pe_tup (pa_cons pe_int (pa_cons pe_int pa_nil))) (pe_callTy cz_int1 (by rfl) T.z_int (by decide +kernel) (pa_cons (pe_cmpR op_eq (pe_call (ok_l_pull T) (hr.mono (by decide)) rfl T.g_l_pull T.F_l_pull.kp T.b_l_pull .nil pass0 (pa_cons (pv 0) (pa_cons pe_int pa_nil))) pe_int (nomark _)) pa_nil)) (fun _ _ => rfl)) pa_nil))))), ?_⟩
    refine at_start (ρ' := [some _]) rfl ?_
    walk_at "z0"
    walk_at "z"
    refine s_ixPT (IntIn 4 8) (by walk_at "zsq") (by split <;> decide) (by walk_at "zin") fun v ⟨n, e, hn⟩ => ?_
    subst e
    obtain ⟨n0, n1⟩ := hn
    walk_at "z"
    exact k _ _ (by assumption) (by omega) (by walk_at "zbag") (by walk_at "zfr")
theorem sc_l_day : FnScope ["_law_bag_here", "_law_some"] ["_law_bag_here"] (defScope s_l_day) :=
  ⟨rfl, rfl, rfl, by decide +kernel, rfl, by decide +kernel, by decide +kernel⟩
theorem ok_l_day (T : Tx P K mg w) : FnOk P w K mg base CX0 2 T.f_l_day T.d_l_day ["_law_bag_here"] (spInt 0 999) := by
  refine T.F_l_day.ok sc_l_day (fun vs H Q E h => ?_) (fun cdv A outer s H vs Q E hr h => ?_)
  · obtain ⟨b, c, rfl, _⟩ := h
    rfl
  · obtain ⟨b, c, rfl, B, k⟩ := h
    refine ⟨_, (pss_cons (ps_set (i := 1) sc_l_day.nd rfl (Or.inl rfl) (pe_ix (r := rIxL K) ix_list (pe_lst (pa_cons pe_int (pa_cons pe_int (pa_cons pe_int (pa_cons pe_int pa_nil))))) (pe_call (ok_l_pull T) (hr.mono (by decide)) rfl T.g_l_pull T.F_l_pull.kp T.b_l_pull .nil pass0 (pa_cons (pv 0) (pa_cons pe_int pa_nil))) (fun _ _ => rfl))) (pss_one (ps_ret (pe_ix (r := rIxL K) ix_list (pe_lst (pa_cons (pe_call (ok_l_pull T) (hr.mono (by decide)) rfl T.g_l_pull T.F_l_pull.kp T.b_l_pull .nil pass0 (pa_cons (pv 0) (pa_cons pe_int pa_nil))) (pa_cons (pv 1) (pa_cons (pe_op op_add pe_int (pe_call (ok_l_pull T) (hr.mono (by decide)) rfl T.g_l_pull T.F_l_pull.kp T.b_l_pull .nil pass0 (pa_cons (pv 0) (pa_cons pe_int pa_nil)))) (pa_cons (pe_call (ok_l_pull T) (hr.mono (by decide)) rfl T.g_l_pull T.F_l_pull.kp T.b_l_pull .nil pass0 (pa_cons (pv 0) (pa_cons pe_int pa_nil))) pa_nil))))) (pe_call (ok_l_pull T) (hr.mono (by decide)) rfl T.g_l_pull T.F_l_pull.kp T.b_l_pull .nil pass0 (pa_cons (pv 0) (pa_cons pe_int pa_nil))) (fun _ _ => rfl))))), ?_⟩
    refine at_start (ρ' := [some _, none]) rfl ?_
    walk_at "z0"
    walk_at "z"
    refine s_ixP (IntIn 0 999) (by walk_at "zsq") ⟨by assumption, by assumption⟩ (by walk_at "zin") fun v ⟨n, e, hn⟩ => ?_
    subst e
    obtain ⟨n0, n1⟩ := hn
    walk_at "z"
    refine s_ixP (IntIn 0 999) (by walk_at "zsq") ⟨by assumption, by assumption⟩ (by walk_at "zin") fun v ⟨m, e, hm⟩ => ?_
    subst e
    exact k _ _ hm.1 hm.2 (by walk_at "zbag") (by walk_at "zfr")

theorem dp_ints {K : PySem.W.Frag} {H : Hp} : ∀ l : List Int, DpAll K H (l.map V.int) (l.map PyData.int)
  | [] => .nil
  | _ :: l => .cons (.int _) (dp_ints l)
theorem use_fct {K : PySem.W.Frag} {H : Hp} {b c : Addr} {Q : VK} {E : XK} (B : Bag H b c) (k : ∀ v f H', GF f → Dp K H' v f.enc → Bag H' b c → Fr b H H' → LB f → Q v H') : spFct K ([.ref b] ++ []) H Q E := ⟨b, c, rfl, B, k⟩
theorem sc_l_passing : FnScope ["_law_bag_here", "_law_minute", "_law_carriage"] ["_law_bag_here"] (defScope s_l_passing) :=
  ⟨rfl, rfl, rfl, by decide +kernel, rfl, by decide +kernel, by decide +kernel⟩
theorem ok_l_passing (T : Tx P K mg w) : FnOk P w K mg base CX0 3 T.f_l_passing T.d_l_passing ["_law_bag_here"] (spFct K) := by
  refine T.F_l_passing.ok sc_l_passing (fun vs H Q E h => ?_) (fun cdv A outer s H vs Q E hr h => ?_)
  · obtain ⟨b, c, rfl, _⟩ := h
    rfl
  · obtain ⟨b, c, rfl, B, k⟩ := h
    refine ⟨_, (pss_cons (ps_set (i := 1) sc_l_passing.nd rfl (Or.inl rfl) (pe_ix (r := rIxL K) ix_list (pe_lst (pa_cons (pe_call (ok_l_pull T) (hr.mono (by decide)) rfl T.g_l_pull T.F_l_pull.kp T.b_l_pull .nil pass0 (pa_cons (pv 0) (pa_cons pe_int pa_nil))) (pa_cons (pe_call (ok_l_pull T) (hr.mono (by decide)) rfl T.g_l_pull T.F_l_pull.kp T.b_l_pull .nil pass0 (pa_cons (pv 0) (pa_cons pe_int pa_nil))) (pa_cons pe_int pa_nil)))) (pe_call (ok_l_pull T) (hr.mono (by decide)) rfl T.g_l_pull T.F_l_pull.kp T.b_l_pull .nil pass0 (pa_cons (pv 0) (pa_cons pe_int pa_nil))) (fun _ _ => rfl))) (pss_cons (ps_set (i := 2) sc_l_passing.nd rfl (Or.inl rfl) (pe_call (ok_l_pull T) (hr.mono (by decide)) rfl T.g_l_pull T.F_l_pull.kp T.b_l_pull .nil pass0 (pa_cons (pv 0) (pa_cons (pe_ix (r := rIxT K) ix_tup (pe_tup (pa_cons pe_int (pa_cons pe_int pa_nil))) (pe_callTy cz_int1 (by rfl) T.z_int (by decide +kernel) (pa_cons (pe_cmpR op_eq (pe_call (ok_l_pull T) (hr.mono (by decide)) rfl T.g_l_pull T.F_l_pull.kp T.b_l_pull .nil pass0 (pa_cons (pv 0) (pa_cons pe_int pa_nil))) pe_int (nomark _)) pa_nil)) (fun _ _ => rfl)) pa_nil)))) (pss_one (ps_ret (pe_tup (pa_cons pe_str (pa_cons (pe_call (ok_l_day T) (hr.mono (by decide)) rfl T.g_l_day T.F_l_day.kp T.b_l_day .nil pass0 (pa_cons (pv 0) pa_nil)) (pa_cons (pv 1) (pa_cons (pe_call (ok_l_gate T) (hr.mono (by decide)) rfl T.g_l_gate T.F_l_gate.kp T.b_l_gate .nil pass0 (pa_cons (pv 0) pa_nil)) (pa_cons (pv 2) (pa_cons (pe_op op_add pe_int (pe_call (ok_l_pull T) (hr.mono (by decide)) rfl T.g_l_pull T.F_l_pull.kp T.b_l_pull .nil pass0 (pa_cons (pv 0) (pa_cons pe_int pa_nil)))) pa_nil))))))))))), ?_⟩
    refine at_start (ρ' := [some _, none, none]) rfl ?_
    walk_at "z0"
    walk_at "z"
    refine s_ixP (IntIn 0 1439) (by walk_at "zsq") ⟨by assumption, by assumption⟩ (by walk_at "zin") fun v ⟨m, e, m0, m1⟩ => ?_
    subst e
    walk_at "z"
    refine s_ixPT (IntIn 3 10) (by walk_at "zsq") (by split <;> decide) (by walk_at "zin") fun v ⟨n, e, n0, n1⟩ => ?_
    subst e
    walk_at "z"
    rename_i ca _ _ _ _ _ d _ _ _ _ _ g _ _ _ _ _ h _ _ _ _ _ t H1 _ _ ht
    exact k _ ⟨"pass", [.i d, .i m, .i g, .i ca, .i (1 + h)]⟩ _ (.pass ⟨by omega, by omega⟩ ⟨m0, m1⟩ ⟨by omega, by omega⟩ ⟨by omega, by omega⟩ ⟨by omega, by omega⟩) (.tup (SqT.of ht) (by walk_at "zdp")) (by walk_at "zbag") (by walk_at "zfr") (fun n m e => by cases e)
def spStretch (K : PySem.W.Frag) : Sp := fun vs H Q _ => ∃ b c : Addr, vs = [.ref b] ∧ Bag H b c ∧ ∀ t x y H', R 0 999 x → R 0 999 y → H' t = some (.tup [.int x, .int y]) → Bag H' b c → Fr b H H' → Q (.ref t) H'
theorem use_stretch {K : PySem.W.Frag} {H : Hp} {b c : Addr} {Q : VK} {E : XK} (B : Bag H b c) (k : ∀ t x y H', R 0 999 x → R 0 999 y → H' t = some (.tup [.int x, .int y]) → Bag H' b c → Fr b H H' → Q (.ref t) H') : spStretch K ([.ref b] ++ []) H Q E := ⟨b, c, rfl, B, k⟩
theorem sc_l_stretch : FnScope ["_law_bag_here", "_law_first"] ["_law_bag_here"] (defScope s_l_stretch) :=
  ⟨rfl, rfl, rfl, by decide +kernel, rfl, by decide +kernel, by decide +kernel⟩
theorem ok_l_stretch (T : Tx P K mg w) : FnOk P w K mg base CX0 3 T.f_l_stretch T.d_l_stretch ["_law_bag_here"] (spStretch K) := by
  refine T.F_l_stretch.ok sc_l_stretch (fun vs H Q E h => ?_) (fun cdv A outer s H vs Q E hr h => ?_)
  · obtain ⟨b, c, rfl, _⟩ := h
    rfl
  · obtain ⟨b, c, rfl, B, k⟩ := h
    refine ⟨_, (pss_cons (ps_set (i := 1) sc_l_stretch.nd rfl (Or.inl rfl) (pe_call (ok_l_day T) (hr.mono (by decide)) rfl T.g_l_day T.F_l_day.kp T.b_l_day .nil pass0 (pa_cons (pv 0) pa_nil))) (pss_one (ps_ret (pe_tup (pa_cons (pv 1) (pa_cons (pe_op op_mod (pe_ix (r := rIxL K) ix_list (pe_lst (pa_cons (pv 1) (pa_cons pe_int (pa_cons (pe_op op_add (pv 1) (pe_call (ok_l_pull T) (hr.mono (by decide)) rfl T.g_l_pull T.F_l_pull.kp T.b_l_pull .nil pass0 (pa_cons (pv 0) (pa_cons pe_int pa_nil)))) (pa_cons (pe_call (ok_l_day T) (hr.mono (by decide)) rfl T.g_l_day T.F_l_day.kp T.b_l_day .nil pass0 (pa_cons (pv 0) pa_nil)) pa_nil))))) (pe_call (ok_l_pull T) (hr.mono (by decide)) rfl T.g_l_pull T.F_l_pull.kp T.b_l_pull .nil pass0 (pa_cons (pv 0) (pa_cons pe_int pa_nil))) (fun _ _ => rfl)) pe_int) pa_nil)))))), ?_⟩
    refine at_start (ρ' := [some _, none]) rfl ?_
    walk_at "z0"
    walk_at "z"
    refine s_ixP (IntIn 0 2000) (by walk_at "zsq") ⟨by assumption, by assumption⟩ (by walk_at "zin") fun v ⟨m, e, m0, m1⟩ => ?_
    subst e
    walk_at "z"
    rename_i t H1 _ _ ht
    exact k _ _ _ _ ⟨by assumption, by assumption⟩ ⟨by omega, by omega⟩ ht (by walk_at "zbag") (by walk_at "zfr")
theorem sc_l_board : FnScope ["_law_bag_here", "_law_gates", "_law_gate_here"] ["_law_bag_here"] (defScope s_l_board) :=
  ⟨rfl, rfl, rfl, by decide +kernel, rfl, by decide +kernel, by decide +kernel⟩
theorem ok_l_board (T : Tx P K mg w) : FnOk P w K mg base CX0 3 T.f_l_board T.d_l_board ["_law_bag_here"] (spFct K) := by
  refine T.F_l_board.ok sc_l_board (fun vs H Q E h => ?_) (fun cdv A outer s H vs Q E hr h => ?_)
  · obtain ⟨b, c, rfl, _⟩ := h
    rfl
  · obtain ⟨b, c, rfl, B, k⟩ := h
    refine ⟨_, (pss_cons (ps_set (i := 1) sc_l_board.nd rfl (Or.inl rfl) (pe_callTy (r := rTupleOf K) cz_tupleOf (by rfl) T.z_tuple (by decide +kernel) (pa_cons (pe_lc (own := [("_law_gate_here", 2)]) (by rfl) sc_l_board.nd (pi_range1 (by rfl) T.z_range (pa_cons pe_int pa_nil)) (blkOk_by (own := [("_law_gate_here", 2)]) (N := ["_law_bag_here", "_law_gates", "_law_gate_here"]) (sc := defScope s_l_board) (by decide +kernel)) (fun _ _ _ _ _ => (pg_name (i := 2) sc_l_board.nd rfl (Or.inl rfl))) (fun _ _ _ _ _ => (pts_one (pt_cmpR op_eq (pe_call (ok_l_pull T) (hr.mono (by decide)) rfl T.g_l_pull T.F_l_pull.kp T.b_l_pull .nil pass0 (pa_cons (pv 0) (pa_cons pe_int pa_nil))) pe_int (nomark _)))) (fun _ _ _ _ _ => (pv 2))) pa_nil))) (pss_one (ps_ret (pe_tup (pa_cons pe_str (pa_cons (pe_call (ok_l_gate T) (hr.mono (by decide)) rfl T.g_l_gate T.F_l_gate.kp T.b_l_gate .nil pass0 (pa_cons (pv 0) pa_nil)) (pa_cons (pe_call (ok_l_day T) (hr.mono (by decide)) rfl T.g_l_day T.F_l_day.kp T.b_l_day .nil pass0 (pa_cons (pv 0) pa_nil)) (pa_cons (pv 1) pa_nil)))))))), ?_⟩
    refine at_start (ρ' := [some _, none, none]) rfl ?_
    walk_at "z0"
    walk_at "z"
    refine c_range (by decide) (fun D H' => D ≠ b ∧ D ≠ c ∧ H D = none ∧ Bag H' b c ∧ Fr b H H') (fun D i l H' => ∃ gs : List Int, l = gs.map V.int ∧ Rising gs ∧ ∀ x ∈ gs, R 0 (i - 1) x) (fun D H' n e _ => ⟨⟨B.neb n, B.nec n, n, B.ext e, e.fr b⟩, [], rfl, List.Pairwise.nil, fun _ h => by cases h⟩) (fun D i l H1 hi Iv hl hz r => ?_) (fun D l H1 Iv hl hz r => ?_)
    · obtain ⟨nb, nc, nD, B1, f1⟩ := Iv
      obtain ⟨gs, rfl, hr, hb⟩ := r
      walk_at "z"
      refine ⟨rfl, ?_⟩
      walk_at "z"
      refine ite_dec (fun h0 => ?_) (fun h0 => ?_)
      · walk_at "z"
        refine c_put (by walk_at "zhp") (by omega) fun H5 f5 _ => ⟨⟨nb, nc, nD, Bag.frs (by assumption) nb nc f5, ?_⟩, gs ++ [(i : Int)], by rw [List.map_append]; rfl, ?_, ?_⟩
        · exact fun a o n h => f5 a o (ne_of_none h nD) ((f1.trans (by assumption)) a o n h)
        · refine List.pairwise_append.mpr ⟨hr, List.pairwise_singleton _ _, fun x hx y hy => ?_⟩
          rw [List.mem_singleton] at hy
          have := (hb x hx).2
          omega
        · intro x hx
          rcases List.mem_append.mp hx with hx | hx
          · have := hb x hx
            exact ⟨this.1, by have := this.2; omega⟩
          · rw [List.mem_singleton] at hx
            exact ⟨by omega, by omega⟩
      · walk_at "z"
        refine c_skip (by walk_at "zhp") hz ⟨nb, nc, nD, by assumption, f1.trans (by assumption)⟩ ⟨gs, rfl, hr, fun x hx => ?_⟩
        have := hb x hx
        exact ⟨this.1, by have := this.2; omega⟩
    · obtain ⟨nb, nc, nD, B1, f1⟩ := Iv
      obtain ⟨gs, rfl, hr, hb⟩ := r
      walk_at "z"
      rename_i q H2 _ e2 hq g H3 g0 g1 B3 f3 d H4 d0 d1 B4 f4 t H5 _ e5 ht
      have qb : q ≠ b := B1.neb (by assumption)
      have hq5 := e5 _ _ (f4 _ _ qb (f3 _ _ qb hq))
      exact k _ ⟨"board", [.i g, .i d, .t gs]⟩ _ (.board ⟨by omega, by omega⟩ ⟨by omega, by omega⟩ hr fun x hx => by
        have h := hb x hx
        exact ⟨h.1, by have := h.2; omega⟩) (.tup (SqT.of ht) (.cons (.str _) (.cons (.int _) (.cons (.int _) (.cons (.tup (SqT.of hq5) (dp_ints _)) .nil))))) (by walk_at "zbag") (by walk_at "zfr") (fun n m e => by cases e)
def spFact (K : PySem.W.Frag) : Sp := fun vs H Q _ => ∃ (b c : Addr) (n : Int), vs = [.ref b, .int n] ∧ 0 ≤ n ∧ n ≤ 1000 ∧ Bag H b c ∧ ∀ v f H', GF f → Dp K H' v f.enc → Bag H' b c → Fr b H H' → LB f → Q v H'
theorem dp_two {K : PySem.W.Frag} {H : Hp} {v : V} {d e : PyData} (h : DpAll K H [v] [d, e]) : False := by
  cases h with
  | cons _ r => cases r
theorem sc_l_fact : FnScope ["_law_bag_here", "_law_amount", "_law_turn", "_law_coins"] ["_law_bag_here", "_law_amount"] (defScope s_l_fact) :=
  ⟨rfl, rfl, rfl, by decide +kernel, rfl, by decide +kernel, by decide +kernel⟩
theorem ok_l_fact (T : Tx P K mg w) : FnOk P w K mg base CX0 4 T.f_l_fact T.d_l_fact ["_law_bag_here", "_law_amount"] (spFact K) := by
  refine T.F_l_fact.ok sc_l_fact (fun vs H Q E h => ?_) (fun cdv A outer s H vs Q E hr h => ?_)
  · obtain ⟨b, c, n, rfl, _⟩ := h
    rfl
  · obtain ⟨b, c, n, rfl, n0, n1, B, k⟩ := h
    refine ⟨_, (pss_cons (ps_set (i := 2) sc_l_fact.nd rfl (Or.inl rfl) (pe_call (ok_l_pull T) (hr.mono (by decide)) rfl T.g_l_pull T.F_l_pull.kp T.b_l_pull .nil pass0 (pa_cons (pv 0) (pa_cons pe_int pa_nil)))) (pss_cons (ps_if (pt_cmpR op_lt (pv 2) pe_int (nomark _)) (pss_one (ps_ret (pe_call (ok_l_passing T) (hr.mono (by decide)) rfl T.g_l_passing T.F_l_passing.kp T.b_l_passing .nil pass0 (pa_cons (pv 0) pa_nil)))) pss_nil) (pss_cons (ps_if (pt_cmpR op_lt (pv 2) pe_int (nomark _)) (pss_one (ps_ret (pe_tup (pa_cons pe_str (pa_cons (pe_call (ok_l_gate T) (hr.mono (by decide)) rfl T.g_l_gate T.F_l_gate.kp T.b_l_gate .nil pass0 (pa_cons (pv 0) pa_nil)) (pa_cons (pe_call (ok_l_day T) (hr.mono (by decide)) rfl T.g_l_day T.F_l_day.kp T.b_l_day .nil pass0 (pa_cons (pv 0) pa_nil)) (pa_cons (pe_call (ok_l_pull T) (hr.mono (by decide)) rfl T.g_l_pull T.F_l_pull.kp T.b_l_pull .nil pass0 (pa_cons (pv 0) (pa_cons pe_int pa_nil))) pa_nil))))))) pss_nil) (pss_cons (ps_if (pt_cmpR op_lt (pv 2) pe_int (nomark _)) (pss_one (ps_ret (pe_call (ok_l_board T) (hr.mono (by decide)) rfl T.g_l_board T.F_l_board.kp T.b_l_board .nil pass0 (pa_cons (pv 0) pa_nil)))) pss_nil) (pss_cons (ps_if (pt_cmpR op_lt (pv 2) pe_int (nomark _)) (pss_one (ps_ret (pe_tup (pa_cons pe_str (pa_cons (pe_call (ok_l_gate T) (hr.mono (by decide)) rfl T.g_l_gate T.F_l_gate.kp T.b_l_gate .nil pass0 (pa_cons (pv 0) pa_nil)) (pa_cons (pe_call (ok_l_day T) (hr.mono (by decide)) rfl T.g_l_day T.F_l_day.kp T.b_l_day .nil pass0 (pa_cons (pv 0) pa_nil)) (pa_cons (pe_call (ok_l_pull T) (hr.mono (by decide)) rfl T.g_l_pull T.F_l_pull.kp T.b_l_pull .nil pass0 (pa_cons (pv 0) (pa_cons pe_int pa_nil))) pa_nil))))))) pss_nil) (pss_cons (ps_if (pt_cmpR op_lt (pv 2) pe_int (nomark _)) (pss_one (ps_ret (pe_op (r := rCatA K) op_catA (pe_tup (pa_cons pe_str (pa_cons (pe_call (ok_l_pull T) (hr.mono (by decide)) rfl T.g_l_pull T.F_l_pull.kp T.b_l_pull .nil pass0 (pa_cons (pv 0) (pa_cons pe_int pa_nil))) pa_nil))) (pe_call (ok_l_stretch T) (hr.mono (by decide)) rfl T.g_l_stretch T.F_l_stretch.kp T.b_l_stretch .nil pass0 (pa_cons (pv 0) pa_nil))))) pss_nil) (pss_cons (ps_if (pt_cmpR op_lt (pv 2) pe_int (nomark _)) (pss_one (ps_ret (pe_op (r := rCatA K) op_catA (pe_tup (pa_cons pe_str (pa_cons (pe_call (ok_l_gate T) (hr.mono (by decide)) rfl T.g_l_gate T.F_l_gate.kp T.b_l_gate .nil pass0 (pa_cons (pv 0) pa_nil)) (pa_cons (pe_call (ok_l_pull T) (hr.mono (by decide)) rfl T.g_l_pull T.F_l_pull.kp T.b_l_pull .nil pass0 (pa_cons (pv 0) (pa_cons pe_int pa_nil))) pa_nil)))) (pe_call (ok_l_stretch T) (hr.mono (by decide)) rfl T.g_l_stretch T.F_l_stretch.kp T.b_l_stretch .nil pass0 (pa_cons (pv 0) pa_nil))))) pss_nil) (pss_cons (ps_if (pt_cmpR op_lt (pv 2) pe_int (nomark _)) (pss_one (ps_ret (pe_tup (pa_cons pe_str (pa_cons (pe_op op_add pe_int (pe_call (ok_l_pull T) (hr.mono (by decide)) rfl T.g_l_pull T.F_l_pull.kp T.b_l_pull .nil pass0 (pa_cons (pv 0) (pa_cons (pe_op op_add (pv 1) pe_int) pa_nil)))) (pa_cons (pe_ix (r := rIxL K) ix_list (pe_lst (pa_cons pe_int (pa_cons (pe_call (ok_l_pull T) (hr.mono (by decide)) rfl T.g_l_pull T.F_l_pull.kp T.b_l_pull .nil pass0 (pa_cons (pv 0) (pa_cons pe_int pa_nil))) (pa_cons pe_int pa_nil)))) (pe_call (ok_l_pull T) (hr.mono (by decide)) rfl T.g_l_pull T.F_l_pull.kp T.b_l_pull .nil pass0 (pa_cons (pv 0) (pa_cons pe_int pa_nil))) (fun _ _ => rfl)) pa_nil)))))) pss_nil) (pss_cons (ps_set (i := 3) sc_l_fact.nd rfl (Or.inl rfl) (pe_ix (r := rIxL K) ix_list (pe_lst (pa_cons (pe_call (ok_l_pull T) (hr.mono (by decide)) rfl T.g_l_pull T.F_l_pull.kp T.b_l_pull .nil pass0 (pa_cons (pv 0) (pa_cons pe_int pa_nil))) (pa_cons (pe_call (ok_l_pull T) (hr.mono (by decide)) rfl T.g_l_pull T.F_l_pull.kp T.b_l_pull .nil pass0 (pa_cons (pv 0) (pa_cons pe_int pa_nil))) (pa_cons (pe_op op_add pe_int (pe_call (ok_l_pull T) (hr.mono (by decide)) rfl T.g_l_pull T.F_l_pull.kp T.b_l_pull .nil pass0 (pa_cons (pv 0) (pa_cons pe_int pa_nil)))) pa_nil)))) (pe_call (ok_l_pull T) (hr.mono (by decide)) rfl T.g_l_pull T.F_l_pull.kp T.b_l_pull .nil pass0 (pa_cons (pv 0) (pa_cons pe_int pa_nil))) (fun _ _ => rfl))) (pss_one (ps_ret (pe_tup (pa_cons pe_str (pa_cons (pe_call (ok_l_pull T) (hr.mono (by decide)) rfl T.g_l_pull T.F_l_pull.kp T.b_l_pull .nil pass0 (pa_cons (pv 0) (pa_cons (pe_ix (r := rIxT K) ix_tup (pe_tup (pa_cons pe_int (pa_cons pe_int pa_nil))) (pe_callTy cz_int1 (by rfl) T.z_int (by decide +kernel) (pa_cons (pe_cmpR op_eq (pe_call (ok_l_pull T) (hr.mono (by decide)) rfl T.g_l_pull T.F_l_pull.kp T.b_l_pull .nil pass0 (pa_cons (pv 0) (pa_cons pe_int pa_nil))) pe_int (nomark _)) pa_nil)) (fun _ _ => rfl)) pa_nil))) (pa_cons (pe_call (ok_l_day T) (hr.mono (by decide)) rfl T.g_l_day T.F_l_day.kp T.b_l_day .nil pass0 (pa_cons (pv 0) pa_nil)) (pa_cons (pv 3) pa_nil)))))))))))))))), ?_⟩
    refine at_start (ρ' := [some _, some _, none, none]) rfl ?_
    walk_at "z0"
    walk_at "z"
    refine ite_dec (fun h1 => ?_) (fun h1 => ?_)
    · walk_at "z"
      refine use_fct (by assumption) fun v f H' gf dv B' f' lb => k v f H' gf dv B' (by walk_at "zfr") lb
    walk_at "z"
    refine ite_dec (fun h2 => ?_) (fun h2 => ?_)
    · walk_at "z"
      rename_i g _ _ _ _ _ d _ _ _ _ _ h _ _ _ _ _ t _ _ _ ht
      exact k _ ⟨"toll", [.i g, .i d, .i h]⟩ _ (.toll ⟨by omega, by omega⟩ ⟨by omega, by omega⟩ ⟨by omega, by omega⟩) (.tup (SqT.of ht) (by walk_at "zdp")) (by walk_at "zbag") (by walk_at "zfr") (fun n m e => by cases e)
    walk_at "z"
    refine ite_dec (fun h3 => ?_) (fun h3 => ?_)
    · walk_at "z"
      refine use_fct (by assumption) fun v f H' gf dv B' f' lb => k v f H' gf dv B' (by walk_at "zfr") lb
    walk_at "z"
    refine ite_dec (fun h4 => ?_) (fun h4 => ?_)
    · walk_at "z"
      rename_i g _ _ _ _ _ d _ _ _ _ _ h _ _ _ _ _ t _ _ _ ht
      exact k _ ⟨"trust", [.i g, .i d, .i h]⟩ _ (.trust ⟨by omega, by omega⟩ ⟨by omega, by omega⟩ ⟨by omega, by omega⟩) (.tup (SqT.of ht) (by walk_at "zdp")) (by walk_at "zbag") (by walk_at "zfr") (fun n m e => by cases e)
    walk_at "z"
    refine ite_dec (fun h5 => ?_) (fun h5 => ?_)
    · walk_at "z"
      refine use_stretch (by walk_at "zbag") fun t x y H5 hx hy ht B5 f5 => ?_
      refine s_catA (by walk_at "zsq") (SqT.of ht) (by simp) (by simp) (sz (by simp)) ?_
      refine s_new fun q H6 nq e6 hq => ?_
      exact k _ ⟨"folk", [.i _, .i x, .i y]⟩ _ (.folk ⟨by assumption, by omega⟩ hx hy) (.tup (SqT.of hq) (by walk_at "zdp")) (by walk_at "zbag") (by walk_at "zfr") (fun n m e => by cases e)
    walk_at "z"
    refine ite_dec (fun h6 => ?_) (fun h6 => ?_)
    · walk_at "z"
      rename_i g _ _ _ _ _ ca _ _ _ _ _ p _ _ _ hp
      refine use_stretch (by walk_at "zbag") fun t x y H5 hx hy ht B5 f5 => ?_
      refine s_catA (SqT.of (by walk_at "zhp")) (SqT.of ht) (by simp) (by simp) (sz (by simp)) ?_
      refine s_new fun q H6 nq e6 hq => ?_
      exact k _ ⟨"bargain", [.i g, .i ca, .i x, .i y]⟩ _ (.bargain ⟨by omega, by omega⟩ ⟨by omega, by omega⟩ hx hy) (.tup (SqT.of hq) (by walk_at "zdp")) (by walk_at "zbag") (by walk_at "zfr") (fun n m e => by cases e)
    walk_at "z"
    refine ite_dec (fun h7 => ?_) (fun h7 => ?_)
    · walk_at "z"
      rename_i nn Hn nn0 nn1 _ _ mi Hm _ _ _ _ pl Hl _ _ _ ix Hi _ _ _ _
      refine s_ixP (IntIn 0 1439) (by walk_at "zsq") ⟨by assumption, by assumption⟩ (by walk_at "zin") fun v ⟨m, e, m0, m1⟩ => ?_
      subst e
      walk_at "z"
      rename_i t _ _ _ ht
      exact k _ ⟨"lost", [.i (1 + nn), .i m]⟩ _ (.lost (by omega) ⟨m0, m1⟩) (.tup (SqT.of ht) (by walk_at "zdp")) (by walk_at "zbag") (by walk_at "zfr") (fun n m e => by cases e; omega)
    walk_at "z"
    refine s_ixP (IntIn 0 100000) (by walk_at "zsq") ⟨by assumption, by assumption⟩ (by walk_at "zin") fun v ⟨m, e, m0, m1⟩ => ?_
    subst e
    walk_at "z"
    refine s_ixPT (IntIn 3 10) (by walk_at "zsq") (by split <;> decide) (by walk_at "zin") fun v ⟨n, e, n0, n1⟩ => ?_
    subst e
    walk_at "z"
    rename_i ca _ _ _ _ _ d _ _ _ _ _ t _ _ _ ht
    exact k _ ⟨"paid", [.i ca, .i d, .i m]⟩ _ (.paid ⟨by omega, by omega⟩ ⟨by omega, by omega⟩ ⟨m0, m1⟩) (.tup (SqT.of ht) (by walk_at "zdp")) (by walk_at "zbag") (by walk_at "zfr") (fun n m e => by cases e)

/-! facts as they lie in the heap: tuples alone -/
theorem sqT_fr {K : PySem.W.Frag} {b a : Addr} {H H' : Hp} {xs ys : List V} (e : Fr b H H') (hb : H b = some (.lst ys)) (h : SqT K H a xs) : SqT K H' a xs := by
  rcases h with (h | ⟨o, h⟩) | h
  · exact .inl (.inl (e _ _ (ne_of h hb (fun z => by cases z)) h))
  · exact .inl (.inr ⟨o, e _ _ (ne_of h hb (fun z => by cases z)) h⟩)
  · exact .inr h
inductive FD (K : PySem.W.Frag) (H : Hp) : V → Arg → Prop
  | i (n : Int) : FD K H (.int n) (.i n)
  | t {a : Addr} {l : List Int} : SqT K H a (l.map V.int) → FD K H (.ref a) (.t l)
inductive FDs (K : PySem.W.Frag) (H : Hp) : List V → List Arg → Prop
  | nil : FDs K H [] []
  | cons {v : V} {x : Arg} {vs : List V} {xs : List Arg} : FD K H v x → FDs K H vs xs → FDs K H (v :: vs) (x :: xs)
/-- v is the fact f -/
def RF (K : PySem.W.Frag) (H : Hp) (v : V) (f : Fct) : Prop := ∃ a vs, v = .ref a ∧ SqT K H a (.str f.w :: vs) ∧ FDs K H vs f.xs
inductive RFs (K : PySem.W.Frag) (H : Hp) : List V → List (Int × Fct) → Prop
  | nil : RFs K H [] []
  | cons {p : Addr} {n : Int} {v : V} {f : Fct} {vs : List V} {fs : List (Int × Fct)} : SqT K H p [.int n, v] → RF K H v f → RFs K H vs fs → RFs K H (.ref p :: vs) ((n, f) :: fs)
section
variable {K : PySem.W.Frag} {H H' : Hp}
theorem fd_map (g : ∀ {a xs}, SqT K H a xs → SqT K H' a xs) {v : V} {x : Arg} (h : FD K H v x) : FD K H' v x := by
  cases h with
  | i n => exact .i n
  | t h => exact .t (g h)
theorem fds_map (g : ∀ {a xs}, SqT K H a xs → SqT K H' a xs) : ∀ {vs : List V} {xs : List Arg}, FDs K H vs xs → FDs K H' vs xs
  | _, _, .nil => .nil
  | _, _, .cons h r => .cons (fd_map g h) (fds_map g r)
theorem rf_map (g : ∀ {a xs}, SqT K H a xs → SqT K H' a xs) {v : V} {f : Fct} (h : RF K H v f) : RF K H' v f := by
  obtain ⟨a, vs, e, h1, h2⟩ := h
  exact ⟨a, vs, e, g h1, fds_map g h2⟩
theorem rfs_map (g : ∀ {a xs}, SqT K H a xs → SqT K H' a xs) : ∀ {vs : List V} {fs : List (Int × Fct)}, RFs K H vs fs → RFs K H' vs fs
  | _, _, .nil => .nil
  | _, _, .cons h q r => .cons (g h) (rf_map g q) (rfs_map g r)
theorem rf_ex (e : Ex H H') {v : V} {f : Fct} (h : RF K H v f) : RF K H' v f := rf_map (fun z => e.sqT z) h
theorem rfs_ex (e : Ex H H') {vs : List V} {fs : List (Int × Fct)} (h : RFs K H vs fs) : RFs K H' vs fs := rfs_map (fun z => e.sqT z) h
theorem rf_fr {b : Addr} {ys : List V} (e : Fr b H H') (hb : H b = some (.lst ys)) {v : V} {f : Fct} (h : RF K H v f) : RF K H' v f := rf_map (fun z => sqT_fr e hb z) h
theorem rfs_fr {b : Addr} {ys : List V} (e : Fr b H H') (hb : H b = some (.lst ys)) {vs : List V} {fs : List (Int × Fct)} (h : RFs K H vs fs) : RFs K H' vs fs := rfs_map (fun z => sqT_fr e hb z) h
theorem rf_pull {b c : Addr} (e : Fr b H H') (B : Bag H b c) {v : V} {f : Fct} (h : RF K H v f) : RF K H' v f := by
  obtain ⟨ys, hb⟩ := B.getb
  exact rf_fr e hb h
theorem rfs_pull {b c : Addr} (e : Fr b H H') (B : Bag H b c) {vs : List V} {fs : List (Int × Fct)} (h : RFs K H vs fs) : RFs K H' vs fs := by
  obtain ⟨ys, hb⟩ := B.getb
  exact rfs_fr e hb h
theorem rfs_snoc {p : Addr} {n : Int} {v : V} {f : Fct} (h1 : SqT K H p [.int n, v]) (h2 : RF K H v f) : ∀ {vs : List V} {fs : List (Int × Fct)}, RFs K H vs fs → RFs K H (vs ++ [.ref p]) (fs ++ [(n, f)])
  | _, _, .nil => .cons h1 h2 .nil
  | _, _, .cons a b r => .cons a b (rfs_snoc h1 h2 r)
theorem rfs_len : ∀ {vs : List V} {fs : List (Int × Fct)}, RFs K H vs fs → vs.length = fs.length
  | _, _, .nil => rfl
  | _, _, .cons _ _ r => congrArg Nat.succ (rfs_len r)
theorem rfs_get : ∀ {vs : List V} {fs : List (Int × Fct)} {i : Nat} {x : V}, RFs K H vs fs → vs[i]? = some x → ∃ p n v f, fs[i]? = some (n, f) ∧ x = .ref p ∧ SqT K H p [.int n, v] ∧ RF K H v f
  | _, _, 0, _, .cons a b _, e => by
    cases e
    exact ⟨_, _, _, _, rfl, rfl, a, b⟩
  | _, _, i + 1, _, .cons _ _ r, e => rfs_get (i := i) r (by simpa using e)
theorem dp_ints_inv : ∀ {vs : List V} {l : List Int}, DpAll K H vs (l.map PyData.int) → vs = l.map V.int
  | _, [], h => by cases h; rfl
  | _, _ :: l, h => by
    cases h with
    | cons a r =>
      cases a
      rw [dp_ints_inv r]
      rfl
theorem fds_dp : ∀ {vs : List V} {xs : List Arg}, FDs K H vs xs → DpAll K H vs (xs.map Arg.enc)
  | _, _, .nil => .nil
  | _, _, .cons h r => .cons (by
    cases h with
    | i n => exact .int n
    | t h => exact .tup h (dp_ints _)) (fds_dp r)
theorem rf_dp {v : V} {f : Fct} (h : RF K H v f) : Dp K H v f.enc := by
  obtain ⟨a, vs, rfl, h1, h2⟩ := h
  exact .tup h1 (.cons (.str _) (fds_dp h2))
theorem dp_fds : ∀ {vs : List V} {xs : List Arg}, DpAll K H vs (xs.map Arg.enc) → FDs K H vs xs
  | _, [], h => by cases h; exact .nil
  | _, x :: xs, h => by
    cases h with
    | cons a r =>
      refine .cons ?_ (dp_fds r)
      cases x with
      | i n => cases a; exact .i n
      | t l =>
        cases a with
        | tup h1 h2 =>
          rw [dp_ints_inv h2] at h1
          exact .t h1
theorem dp_rf {v : V} {f : Fct} (h : Dp K H v f.enc) : RF K H v f := by
  obtain ⟨w, xs⟩ := f
  cases h with
  | tup h1 h2 =>
    cases h2 with
    | cons a r =>
      cases a
      exact ⟨_, _, rfl, h1, dp_fds r⟩
def encP (p : Int × Fct) : PyData := .tuple [.int p.1, p.2.enc]
theorem rfs_dp : ∀ {vs : List V} {fs : List (Int × Fct)}, RFs K H vs fs → DpAll K H vs (fs.map encP)
  | _, _, .nil => .nil
  | _, _, .cons h q r => .cons (.tup h (.cons (.int _) (.cons (rf_dp q) .nil))) (rfs_dp r)
/-- a list of facts at l -/
def RL (K : PySem.W.Frag) (H : Hp) (l : Addr) (fs : List (Int × Fct)) : Prop := ∃ vs, SqL K H l vs ∧ RFs K H vs fs
theorem rl_ex (e : Ex H H') {l : Addr} {fs : List (Int × Fct)} (h : RL K H l fs) : RL K H' l fs := by
  obtain ⟨vs, h1, h2⟩ := h
  exact ⟨vs, e.sqL h1, rfs_ex e h2⟩
theorem rl_dp {l : Addr} {fs : List (Int × Fct)} (h : RL K H l fs) : Dp K H (.ref l) (.list (fs.map encP)) := by
  obtain ⟨vs, h1, h2⟩ := h
  exact .lst h1 (rfs_dp h2)
end
/-- facts as the document wants them: good ones, their numbers rising from 1 -/
structure GFs (fs : List (Int × Fct)) : Prop where
  good : ∀ p ∈ fs, GF p.2
  rise : (fs.map (·.1)).Pairwise (· < ·)
  one : ∀ p ∈ fs, 1 ≤ p.1
def spFacts (K : PySem.W.Frag) : Sp := fun vs H Q _ => ∃ (b c : Addr) (n : Int), vs = [.ref b, .int n] ∧ 0 ≤ n ∧ n ≤ 1000 ∧ Bag H b c ∧ ∀ l vs fs H', H l = none → H' l = some (.lst vs) → RFs K H' vs fs → GFs fs → (fs.length : Int) ≤ n → Bag H' b c → Fr b H H' → Q (.ref l) H'
theorem use_fact {K : PySem.W.Frag} {H : Hp} {b c : Addr} {n : Int} {Q : VK} {E : XK} (B : Bag H b c) (hn : 0 ≤ n ∧ n ≤ 1000) (k : ∀ v f H', GF f → RF K H' v f → Bag H' b c → Fr b H H' → Q v H') : spFact K ([.ref b, .int n] ++ []) H Q E := ⟨b, c, n, rfl, hn.1, hn.2, B, fun v f H' g d B' f' _ => k v f H' g (dp_rf d) B' f'⟩
theorem use_factL {K : PySem.W.Frag} {H : Hp} {b c : Addr} {n : Int} {Q : VK} {E : XK} (B : Bag H b c) (hn : 0 ≤ n ∧ n ≤ 1000) (k : ∀ v f H', GF f → RF K H' v f → Bag H' b c → Fr b H H' → LB f → Q v H') : spFact K ([.ref b, .int n] ++ []) H Q E := ⟨b, c, n, rfl, hn.1, hn.2, B, fun v f H' g d B' f' lb => k v f H' g (dp_rf d) B' f' lb⟩
theorem gf_pass {f : Fct} (h : GF f) (e : f.w = "pass") : ∃ d m g c h, f = ⟨"pass", [.i d, .i m, .i g, .i c, .i h]⟩ ∧ R 0 999 d ∧ R 0 1439 m ∧ R 0 7 g ∧ R 0 9 c ∧ R 1 8 h := by
  cases h with
  | pass a b c d h => exact ⟨_, _, _, _, _, rfl, a, b, c, d, h⟩
  | _ =>
    dsimp only at e
    exact absurd e (by decide +kernel)
theorem gf_three {f : Fct} (h : GF f) (e : f.w = "toll" ∨ f.w = "board") : ∃ g d x, f = ⟨f.w, [.i g, .i d, x]⟩ ∧ R 0 999 d ∧ ∀ d', R 0 999 d' → GF ⟨f.w, [.i g, .i d', x]⟩ := by
  cases h with
  | toll a b c => exact ⟨_, _, _, rfl, b, fun d' h => .toll a h c⟩
  | board a b c d => exact ⟨_, _, _, rfl, b, fun d' h => .board a h c d⟩
  | _ =>
    dsimp only at e
    exact absurd e (by decide +kernel)

theorem eqV_str {a b : Str} (h : eqV (.str a) (.str b) = true) : a = b := by
  simpa [eqV] using h
theorem fds3 {K : PySem.W.Frag} {H : Hp} {vs : List V} {g d : Int} {x : Arg} (h : FDs K H vs [.i g, .i d, x]) : ∃ v, vs = [.int g, .int d, v] ∧ FD K H v x := by
  cases h with
  | cons a r =>
    cases a
    cases r with
    | cons a r =>
      cases a
      cases r with
      | cons a r =>
        cases r
        exact ⟨_, rfl, a⟩
theorem fds5 {K : PySem.W.Frag} {H : Hp} {vs : List V} {p q r s t : Int} (h : FDs K H vs [.i p, .i q, .i r, .i s, .i t]) : vs = [.int p, .int q, .int r, .int s, .int t] := by
  repeat (first | (cases ‹FDs _ _ _ (_ :: _)›) | (cases ‹FD _ _ _ _›))
  cases ‹FDs _ _ _ []›
  rfl
theorem sc_l_facts : FnScope ["_law_bag_here", "_law_most", "_law_amount", "_law_found", "_law_number", "_law_one_day", "_law_day_here", "_law_turn", "_law_fact_here"] ["_law_bag_here", "_law_most"] (defScope s_l_facts) :=
  ⟨rfl, rfl, rfl, by decide +kernel, rfl, by decide +kernel, by decide +kernel⟩
theorem ok_l_facts (T : Tx P K mg w) : FnOk P w K mg base CX0 5 T.f_l_facts T.d_l_facts ["_law_bag_here", "_law_most"] (spFacts K) := by
  refine T.F_l_facts.ok sc_l_facts (fun vs H Q E h => ?_) (fun cdv A outer s H vs Q E hr h => ?_)
  · obtain ⟨b, c, n, rfl, _⟩ := h
    rfl
  · obtain ⟨b, c, n, rfl, n0, n1, B, k⟩ := h
    refine ⟨_, (pss_cons (ps_set (i := 2) sc_l_facts.nd rfl (Or.inl rfl) (pe_call (ok_l_pull T) (hr.mono (by decide)) rfl T.g_l_pull T.F_l_pull.kp T.b_l_pull .nil pass0 (pa_cons (pv 0) (pa_cons (pe_op op_add (pv 1) pe_int) pa_nil)))) (pss_cons (ps_set (i := 3) sc_l_facts.nd rfl (Or.inl rfl) (pe_lst pa_nil)) (pss_cons (ps_set (i := 4) sc_l_facts.nd rfl (Or.inl rfl) pe_int) (pss_cons (ps_set (i := 5) sc_l_facts.nd rfl (Or.inl rfl) (pe_cmpR op_gt (pe_call (ok_l_pull T) (hr.mono (by decide)) rfl T.g_l_pull T.F_l_pull.kp T.b_l_pull .nil pass0 (pa_cons (pv 0) (pa_cons pe_int pa_nil))) pe_int (nomark _))) (pss_cons (ps_set (i := 6) sc_l_facts.nd rfl (Or.inl rfl) (pe_op op_add pe_int (pe_call (ok_l_pull T) (hr.mono (by decide)) rfl T.g_l_pull T.F_l_pull.kp T.b_l_pull .nil pass0 (pa_cons (pv 0) (pa_cons pe_int pa_nil))))) (pss_cons (ps_for PassesOwn.never rfl (pi_range1 (by rfl) T.z_range (pa_cons (pv 2) pa_nil)) (pg_name (i := 7) sc_l_facts.nd rfl (Or.inl rfl)) (pss_cons (ps_set (i := 4) sc_l_facts.nd rfl (Or.inl rfl) (pe_op op_add (pe_op op_add (pv 4) pe_int) (pe_callTy cz_int1 (by rfl) T.z_int (by decide +kernel) (pa_cons (pe_cmpR op_eq (pe_call (ok_l_pull T) (hr.mono (by decide)) rfl T.g_l_pull T.F_l_pull.kp T.b_l_pull .nil pass0 (pa_cons (pv 0) (pa_cons pe_int pa_nil))) pe_int (nomark _)) pa_nil)))) (pss_cons (ps_set (i := 8) sc_l_facts.nd rfl (Or.inl rfl) (pe_call (ok_l_fact T) (hr.mono (by decide)) rfl T.g_l_fact T.F_l_fact.kp T.b_l_fact .nil pass0 (pa_cons (pv 0) (pa_cons (pv 2) pa_nil)))) (Evl.pss_cut (ps_if (PW.pt (pw_and (pt_val (pv 5)) (pw_and1 (pt_cmpR op_eq (pe_ix (r := rIxT K) ix_tup (pv 8) pe_int (fun _ _ => rfl)) pe_str (nomark _))))) (pss_one (ps_set (i := 8) sc_l_facts.nd rfl (Or.inl rfl) (pe_op (r := rCatA K) op_catA (pe_tup (pa_cons pe_str (pa_cons (pv 6) (pa_cons (pe_ix (r := rIxT K) ix_tup (pv 8) pe_int (fun _ _ => rfl)) (pa_cons (pe_ix (r := rIxT K) ix_tup (pv 8) pe_int (fun _ _ => rfl)) (pa_cons (pe_op op_mod (pe_ix (r := rIxT K) ix_tup (pv 8) pe_int (fun _ _ => rfl)) pe_int) pa_nil)))))) (pe_slice (r := rSlT K) sl_tup (pv 8) (po_some pe_int) po_none)))) pss_nil) (Evl.pss_cut (ps_if (PW.pt (pw_and (pt_val (pv 5)) (pw_and1 (pt_cmpR (r := rIn K false) op_in_seq (pe_ix (r := rIxT K) ix_tup (pv 8) pe_int (fun _ _ => rfl)) (pe_lst (pa_cons pe_str (pa_cons pe_str pa_nil))) (by rfl))))) (pss_one (ps_set (i := 8) sc_l_facts.nd rfl (Or.inl rfl) (pe_op (r := rCatA K) op_catA (pe_op (r := rCatA K) op_catA (pe_slice (r := rSlT K) sl_tup (pv 8) po_none (po_some pe_int)) (pe_tup (pa_cons (pe_op op_mod (pe_ix (r := rIxT K) ix_tup (pv 8) pe_int (fun _ _ => rfl)) (pe_op op_add (pv 6) pe_int)) pa_nil))) (pe_slice (r := rSlT K) sl_tup (pv 8) (po_some pe_int) po_none)))) pss_nil) (pss_one (ps_expr (pe_bm PySem.F.plainAttrs_list PySem.F.slot_list_append PySem.F.type_list_append mt_append (pv 3) (pa_cons (pe_tup (pa_cons (pv 4) (pa_cons (pv 8) pa_nil))) pa_nil))))))))) (pss_one (ps_ret (pv 3))))))))), ?_⟩
    refine at_start (ρ' := [some _, some _, none, none, none, none, none, none, none]) rfl ?_
    walk_at "z0"
    walk_at "z"
    rename_i am _ am0 am1 _ _ l H1 nl e1 hl od _ _ _ _ _ dh H2 dh0 dh1 B2 _
    have lb : l ≠ b := by walk_at "zne"
    have lc : l ≠ c := by walk_at "zne"
    have hl2 : H2 l = some (.lst []) := by walk_at "zhp"
    have f02 : Fr b H H2 := by walk_at "zfr"
    have nl0 : H l = none := fr_none (by assumption) nl lb
    refine l_range (by omega) (fun i σ H' => ∃ (m : Int) (fs : List (Int × Fct)) (vs : List V) (v7 v8 : Option V), σ = [some (.ref b), some (.int n), some (.int am), some (.ref l), some (.int m), some (.bl (decide (0 < od))), some (.int (5 + dh)), v7, v8] ∧ Bag H' b c ∧ H' l = some (.lst vs) ∧ RFs K H' vs fs ∧ GFs fs ∧ (∀ p ∈ fs, p.1 ≤ m) ∧ fs.length = i ∧ 0 ≤ m ∧ Fr b H H') ⟨0, [], [], _, _, rfl, B2, hl2, .nil, ⟨(fun _ h => by cases h), List.Pairwise.nil, (fun _ h => by cases h)⟩, (fun _ h => by cases h), rfl, Int.le_refl _, f02⟩ (fun i σ H3 hi h => ?_) (fun σ H3 h => ?_)
    · obtain ⟨m, fs, vs, v7, v8, rfl, B3, hl3, r3, g3, hm, hlen, m0, f03⟩ := h
      walk_at "z"
      rename_i q H4 q0 q1 B4 f4
      have hl4 : H4 l = some (.lst vs) := f4 _ _ lb hl3
      have r4 := rfs_pull f4 B3 r3
      refine use_fact B4 (by omega) fun v f H5 gf rf B5 f5 => ?_
      have hl5 : H5 l = some (.lst vs) := f5 _ _ lb hl4
      have r5 := rfs_pull f5 B4 r4
      have f05 : Fr b H H5 := by walk_at "zfr"
      generalize hm' : m + 1 + (if decide (q = 0) = true then (1 : Int) else 0) = m'
      have hmm : m < m' := by
        rw [← hm']
        split <;> omega
      walk_at "z"
      refine s_cut (fun ρ H' => ∃ v f, ρ = [some (.ref b), some (.int n), some (.int am), some (.ref l), some (.int m'), some (.bl (decide (0 < od))), some (.int (5 + dh)), some (.int i), some v] ∧ GF f ∧ RF K H' v f ∧ Bag H' b c ∧ H' l = some (.lst vs) ∧ RFs K H' vs fs ∧ Fr b H H') ?_ fun ρ H6 h => ?_
      · obtain ⟨a, us, rfl, ha, hu⟩ := rf
        walk_at "z"
        refine ite_dec (fun h1 => ?_) (fun h1 => ?_)
        · walk_at "z"
          refine s_ixT ha (at0 _ _) ?_
          walk_at "z"
          refine ite_dec (fun h2 => ?_) (fun h2 => ?_)
          · obtain ⟨d, mi, g, ca, ho, rfl, r1, r2, r3', r4', r5'⟩ := gf_pass gf h2
            have hu := fds5 hu
            subst hu
            walk_at "z"
            rename_i t6 H6 _ e6 ht6
            refine s_slT 6 [.int ho] (e6.sqT ha) rfl (by decide) rfl ?_
            refine s_new fun t7 H7 _ e7 ht7 => ?_
            refine s_catA (SqT.of (by walk_at "zhp")) (SqT.of ht7) (by simp) (by simp) (sz (by simp)) ?_
            refine s_new fun t8 H8 _ e8 ht8 => ?_
            have e58 : Ex H5 H8 := by walk_at "zex"
            refine ⟨_, ⟨"pass", [.i (5 + dh), .i mi, .i g, .i (ca % 2), .i ho]⟩, rfl, .pass ⟨by omega, by omega⟩ r2 r3' ⟨by omega, by omega⟩ r5', ⟨_, _, rfl, SqT.of ht8, .cons (.i _) (.cons (.i _) (.cons (.i _) (.cons (.i _) (.cons (.i _) .nil))))⟩, B5.ext e58, e58 _ _ hl5, rfs_ex e58 r5, f05.trans (e58.fr b)⟩
          · walk_at "z"
            exact ⟨_, f, rfl, gf, ⟨a, us, rfl, ha, hu⟩, B5, hl5, r5, f05⟩
        · walk_at "z"
          exact ⟨_, f, rfl, gf, ⟨a, us, rfl, ha, hu⟩, B5, hl5, r5, f05⟩
      · obtain ⟨v, f, rfl, gf, rf, B6, hl6, r6, f06⟩ := h
        refine s_cut (fun ρ H' => ∃ v f, ρ = [some (.ref b), some (.int n), some (.int am), some (.ref l), some (.int m'), some (.bl (decide (0 < od))), some (.int (5 + dh)), some (.int i), some v] ∧ GF f ∧ RF K H' v f ∧ Bag H' b c ∧ H' l = some (.lst vs) ∧ RFs K H' vs fs ∧ Fr b H H') ?_ fun ρ H7 h => ?_
        · obtain ⟨a, us, rfl, ha, hu⟩ := rf
          walk_at "z"
          refine ite_dec (fun h1 => ?_) (fun h1 => ?_)
          · walk_at "z"
            refine s_ixT ha (at0 _ _) ?_
            walk_at "z"
            rename_i ps H7 _ e7 hps
            refine s_rInSeq (.inl (SqL.of hps)) rfl rfl ?_
            walk_at "z"
            refine ite_both (fun h2 => ?_) (fun h2 => ?_)
            · have hw : f.w = "toll" ∨ f.w = "board" := by
                unfold inV at h2
                simp only [List.any_cons, List.any_nil, Bool.or_false, Bool.or_eq_true] at h2
                rcases h2 with h2 | h2
                · exact .inl (eqV_str h2).symm
                · exact .inr (eqV_str h2).symm
              obtain ⟨g, d, x, ef, hd, hmk⟩ := gf_three gf hw
              obtain ⟨w, xs⟩ := f
              dsimp only at ef ha
              injection ef with _ ef
              subst ef
              obtain ⟨v3, rfl, hx⟩ := fds3 hu
              walk_at "z"
              refine s_slT 4 [.str w, .int g] (e7.sqT ha) rfl (by decide) rfl ?_
              refine s_new fun t8 H8 _ e8 ht8 => ?_
              walk_at "z"
              rename_i t9 H9 _ e9 ht9
              refine s_catA (SqT.of (e9 _ _ ht8)) (SqT.of ht9) (by simp) (by simp) (sz (by simp)) ?_
              refine s_new fun tA HA _ eA htA => ?_
              walk_at "z"
              refine s_slT 4 [v3] (sqT_ex ha (by walk_at "zex")) rfl (by decide) rfl ?_
              refine s_new fun tB HB _ eB htB => ?_
              refine s_catA (SqT.of (eB _ _ htA)) (SqT.of htB) (by simp) (by simp) (sz (by simp)) ?_
              refine s_new fun tC HC _ eC htC => ?_
              have e6C : Ex _ HC := ((((e7.trans e8).trans e9).trans eA).trans eB).trans eC
              have hd' := hd.1
              exact ⟨_, ⟨w, [.i g, .i (d % (5 + dh + 2)), x]⟩, rfl, hmk _ ⟨Int.emod_nonneg _ (by omega), by have := Int.emod_lt_of_pos d (b := 5 + dh + 2) (by omega); omega⟩, ⟨_, _, rfl, SqT.of htC, .cons (.i _) (.cons (.i _) (.cons (fd_map (fun z => e6C.sqT z) hx) .nil))⟩, B6.ext e6C, e6C _ _ hl6, rfs_ex e6C r6, f06.trans (e6C.fr b)⟩
            · walk_at "z"
              exact ⟨_, f, rfl, gf, ⟨a, us, rfl, e7.sqT ha, fds_map (fun z => e7.sqT z) hu⟩, B6.ext e7, e7 _ _ hl6, rfs_ex e7 r6, f06.trans (e7.fr b)⟩
          · walk_at "z"
            exact ⟨_, f, rfl, gf, ⟨a, us, rfl, ha, hu⟩, B6, hl6, r6, f06⟩
        · obtain ⟨v, f, rfl, gf, rf, B7, hl7, r7, f07⟩ := h
          walk_at "z"
          rename_i t8 H8 _ e8 ht8
          refine s_app (e8 _ _ hl7) (by rw [rfs_len r7]; exact szl (by omega)) fun H9 f9 hl9 => ?_
          have r9 : RFs K H9 (vs ++ [.ref t8]) (fs ++ [(m', f)]) := rfs_fr f9 (e8 _ _ hl7) (rfs_snoc (SqT.of ht8) (rf_ex e8 rf) (rfs_ex e8 r7))
          refine ⟨m', _, _, _, _, rfl, (B7.ext e8).frs lb lc f9, hl9, r9, ⟨fun p hp => ?_, ?_, fun p hp => ?_⟩, fun p hp => ?_, by rw [List.length_append, hlen]; rfl, by omega, fun x o hx ho => f9 _ _ (ne_of_none ho nl0) ((f07.trans (e8.fr b)) x o hx ho)⟩
          · rcases List.mem_append.mp hp with hp | hp
            · exact g3.good p hp
            · rw [List.mem_singleton.mp hp]
              exact gf
          · rw [List.map_append]
            refine List.pairwise_append.mpr ⟨g3.rise, List.pairwise_singleton _ _, fun x hx y hy => ?_⟩
            obtain ⟨p, hp, rfl⟩ := List.mem_map.mp hx
            rw [List.map_cons, List.map_nil, List.mem_singleton] at hy
            have := hm p hp
            omega
          · rcases List.mem_append.mp hp with hp | hp
            · exact g3.one p hp
            · rw [List.mem_singleton.mp hp]
              show 1 ≤ m'
              omega
          · rcases List.mem_append.mp hp with hp | hp
            · have := hm p hp
              omega
            · rw [List.mem_singleton.mp hp]
              exact Int.le_refl _
    · obtain ⟨m, fs, vs, v7, v8, rfl, B3, hl3, r3, g3, hm, hlen, m0, f03⟩ := h
      walk_at "z"
      exact k l vs fs H3 nl0 hl3 r3 g3 (by omega) B3 f03

/-! what holds on a day -/
def Wd (w : Str) : Prop := w = "toll" ∨ w = "board" ∨ w = "trust"
def Fits (w : Str) (x : Arg) : Prop := if w = "board" then ∃ gs, x = .t gs ∧ Rising gs ∧ ∀ y ∈ gs, R 0 7 y else ∃ n, x = .i n
theorem fits_no {w : Str} (h : w ≠ "board") (n : Int) : Fits w (.i n) := by
  unfold Fits
  rw [if_neg h]
  exact ⟨_, rfl⟩
theorem fits_yes {gs : List Int} (h1 : Rising gs) (h2 : ∀ y ∈ gs, R 0 7 y) : Fits "board" (.t gs) := by
  unfold Fits
  rw [if_pos rfl]
  exact ⟨_, rfl, h1, h2⟩
theorem ne_toll_board : (("toll" : Str) ≠ "board") := by decide +kernel
theorem ne_trust_board : (("trust" : Str) ≠ "board") := by decide +kernel
theorem gf_hold {f : Fct} (h : GF f) (e : Wd f.w) : ∃ g d x, f = ⟨f.w, [.i g, .i d, x]⟩ ∧ R 0 999 d ∧ Fits f.w x := by
  cases h with
  | toll a b c => exact ⟨_, _, _, rfl, b, fits_no ne_toll_board _⟩
  | board a b c d => exact ⟨_, _, _, rfl, b, fits_yes c d⟩
  | trust a b c => exact ⟨_, _, _, rfl, b, fits_no ne_trust_board _⟩
  | _ =>
    unfold Wd at e
    dsimp only at e
    exact absurd e (by decide +kernel)
theorem gf_head {f : Fct} (h : GF f) : ∃ g x r, f = ⟨f.w, .i g :: x :: r⟩ := by
  cases h <;> exact ⟨_, _, _, rfl⟩
def sel (w : Str) (g d : Int) (f : Fct) (b : Int × Arg) : Int × Arg :=
  match f.xs with
  | [.i g', .i d', x] => if f.w = w ∧ g' = g ∧ b.1 ≤ d' ∧ d' ≤ d then (d', x) else b
  | _ => b
def holdF (w : Str) (g d : Int) (o : Arg) (fs : List (Int × Fct)) : Int × Arg := fs.foldl (fun b p => sel w g d p.2 b) (-1, o)
theorem hold_take {w : Str} {g d : Int} {o : Arg} {fs : List (Int × Fct)} {i : Nat} {p : Int × Fct} (e : fs[i]? = some p) : holdF w g d o (fs.take (i + 1)) = sel w g d p.2 (holdF w g d o (fs.take i)) := by
  unfold holdF
  rw [List.take_succ, e, List.foldl_append]
  rfl
theorem sel_yes {w : Str} {g d d' : Int} {x : Arg} {b : Int × Arg} (h1 : b.1 ≤ d') (h2 : d' ≤ d) : sel w g d ⟨w, [.i g, .i d', x]⟩ b = (d', x) := if_pos ⟨rfl, rfl, h1, h2⟩
theorem sel_no {w w' : Str} {g g' d d' : Int} {x : Arg} {b : Int × Arg} (h : ¬ (w' = w ∧ g' = g ∧ b.1 ≤ d' ∧ d' ≤ d)) : sel w g d ⟨w', [.i g', .i d', x]⟩ b = b := if_neg h
theorem sel_word {w : Str} {g d : Int} {f : Fct} {b : Int × Arg} (h : f.w ≠ w) : sel w g d f b = b := by
  unfold sel
  split
  · exact if_neg fun z => h z.1
  · rfl
theorem fd_ex {K : PySem.W.Frag} {H H' : Hp} (e : Ex H H') {v : V} {x : Arg} (h : FD K H v x) : FD K H' v x := fd_map (fun z => e.sqT z) h
def spHold (K : PySem.W.Frag) : Sp := fun vs H Q _ => ∃ (l : Addr) (wd : Str) (g d : Int) (v : V) (o : Arg) (fs : List (Int × Fct)), vs = [.ref l, .str wd, .int g, .int d, v] ∧ RL K H l fs ∧ GFs fs ∧ Wd wd ∧ FD K H v o ∧ ∀ v' H', Ex H H' → FD K H' v' (holdF wd g d o fs).2 → Q v' H'
theorem use_hold {K : PySem.W.Frag} {H : Hp} {Q : VK} {E : XK} {l : Addr} {wd : Str} {g d : Int} {v : V} {o : Arg} {fs : List (Int × Fct)} (h : RL K H l fs) (gf : GFs fs) (hw : Wd wd) (hv : FD K H v o) (k : ∀ v' H', Ex H H' → FD K H' v' (holdF wd g d o fs).2 → Q v' H') : spHold K ([.ref l, .str wd, .int g, .int d, v] ++ []) H Q E := ⟨l, wd, g, d, v, o, fs, rfl, h, gf, hw, hv, k⟩
theorem fds_two {K : PySem.W.Frag} {H : Hp} {vs : List V} {g : Int} {x : Arg} {r : List Arg} (h : FDs K H vs (.i g :: x :: r)) : ∃ v us, vs = .int g :: v :: us := by
  cases h with
  | cons a h =>
    cases a
    cases h with
    | cons a h => exact ⟨_, _, rfl⟩
theorem at1 {α : Type} (a c : α) (r : List α) : atI (a :: c :: r) (1 : Int) = some c := atI_nat (xs := a :: c :: r) (j := 1) rfl
theorem sc_l_hold : FnScope ["_law_facts_here", "_law_word", "_law_gate_here", "_law_day_here", "_law_other", "_law_best", "_law_number", "_law_fact_here"] ["_law_facts_here", "_law_word", "_law_gate_here", "_law_day_here", "_law_other"] (defScope s_l_hold) :=
  ⟨rfl, rfl, rfl, by decide +kernel, rfl, by decide +kernel, by decide +kernel⟩
theorem ok_l_hold (T : Tx P K mg w) : FnOk P w K mg base CX0 1 T.f_l_hold T.d_l_hold ["_law_facts_here", "_law_word", "_law_gate_here", "_law_day_here", "_law_other"] (spHold K) := by
  refine T.F_l_hold.ok sc_l_hold (fun vs H Q E h => ?_) (fun cdv A outer s H vs Q E hr h => ?_)
  · obtain ⟨l, wd, g, d, v, o, fs, rfl, _⟩ := h
    rfl
  · obtain ⟨l, wd, g, d, v0, o, fs, rfl, ⟨vs, hl, hf⟩, gfs, hw, hv, k⟩ := h
    refine ⟨_, (pss_cons (ps_set (i := 5) sc_l_hold.nd rfl (Or.inl rfl) (pe_tup (pa_cons (pe_un un_neg pe_int) (pa_cons (pv 4) pa_nil)))) (pss_cons (ps_for PassesOwn.never rfl (pi_list (pv 0)) (pg_tup (by rfl) (pgs_cons (pg_name (i := 6) sc_l_hold.nd rfl (Or.inl rfl)) (pgs_cons (pg_name (i := 7) sc_l_hold.nd rfl (Or.inl rfl)) pgs_nil))) (pss_one (ps_if (PW.pt (pw_and (pt_cmpR op_eq (pe_ix (r := rIxT K) ix_tup (pv 7) pe_int (fun _ _ => rfl)) (pv 1) (nomark _)) (pw_and (pt_cmpR op_eq (pe_ix (r := rIxT K) ix_tup (pv 7) pe_int (fun _ _ => rfl)) (pv 2) (nomark _)) (pw_and1 (pt_chain op_le op_le (pe_ix (r := rIxT K) ix_tup (pv 5) pe_int (fun _ _ => rfl)) (pe_ix (r := rIxT K) ix_tup (pv 7) pe_int (fun _ _ => rfl)) (pv 3)))))) (pss_one (ps_set (i := 5) sc_l_hold.nd rfl (Or.inl rfl) (pe_tup (pa_cons (pe_ix (r := rIxT K) ix_tup (pv 7) pe_int (fun _ _ => rfl)) (pa_cons (pe_ix (r := rIxT K) ix_tup (pv 7) pe_int (fun _ _ => rfl)) pa_nil))))) pss_nil))) (pss_one (ps_ret (pe_ix (r := rIxT K) ix_tup (pv 5) pe_int (fun _ _ => rfl)))))), ?_⟩
    refine at_start (ρ' := [some _, some _, some _, some _, some _, none, none, none]) rfl ?_
    walk_at "z0"
    walk_at "z"
    rename_i t0 H1 _ e1 ht0
    refine l_list vs (fun i σ H' => ∃ t v v6 v7, σ = [some (.ref l), some (.str wd), some (.int g), some (.int d), some v0, some (.ref t), v6, v7] ∧ Ex H H' ∧ SqT K H' t [.int (holdF wd g d o (fs.take i)).1, v] ∧ FD K H' v (holdF wd g d o (fs.take i)).2)
      ⟨t0, v0, _, _, rfl, e1, SqT.of ht0, fd_ex e1 hv⟩ (fun i σ H' hi h => ?_) (fun i x σ H2 hi h => ?_) (fun σ H2 h => ?_)
    · obtain ⟨t, v, v6, v7, rfl, e2, _⟩ := h
      exact e2.sqL hl
    · obtain ⟨t, v, v6, v7, rfl, e2, ht, hv2⟩ := h
      obtain ⟨p, n, u, f, hfi, rfl, hp, a, us, rfl, ha, hu⟩ := rfs_get hf hi
      replace hp := e2.sqT hp
      replace ha := e2.sqT ha
      have gf := gfs.good _ (List.mem_of_getElem? hfi)
      walk_at "z"
      refine s_ixT ha (at0 _ _) ?_
      walk_at "z"
      refine ite_dec (fun h1 => ?_) (fun h1 => ?_)
      · obtain ⟨g', d', x, ef, hd, _⟩ := gf_hold gf (by rw [h1]; exact hw)
        replace hu := fds_map (fun z => e2.sqT z) hu
        dsimp only at ef
        obtain ⟨fw, fx⟩ := f
        dsimp only at h1 hu ha ef hfi
        subst h1
        injection ef with _ ef
        subst ef
        obtain ⟨v3, rfl, hx⟩ := fds3 hu
        walk_at "z"
        refine ite_dec (fun h2 => ?_) (fun h2 => ?_)
        · subst h2
          walk_at "z"
          refine ite_dec (fun h3 => ?_) (fun h3 => ?_)
          · walk_at "z"
            refine ite_dec (fun h4 => ?_) (fun h4 => ?_)
            · walk_at "z"
              rename_i tn H3 _ e3 htn
              refine ⟨tn, v3, _, _, rfl, e2.trans e3, ?_, ?_⟩
              · rw [hold_take hfi, sel_yes h3 h4]
                exact SqT.of htn
              · rw [hold_take hfi, sel_yes h3 h4]
                exact fd_ex e3 hx
            · walk_at "z"
              refine ⟨t, v, _, _, rfl, e2, ?_, ?_⟩
              · rw [hold_take hfi, sel_no (by intro z; exact h4 z.2.2.2)]
                exact ht
              · rw [hold_take hfi, sel_no (by intro z; exact h4 z.2.2.2)]
                exact hv2
          · walk_at "z"
            refine ⟨t, v, _, _, rfl, e2, ?_, ?_⟩
            · rw [hold_take hfi, sel_no (by intro z; exact h3 z.2.2.1)]
              exact ht
            · rw [hold_take hfi, sel_no (by intro z; exact h3 z.2.2.1)]
              exact hv2
        · walk_at "z"
          refine ⟨t, v, _, _, rfl, e2, ?_, ?_⟩
          · rw [hold_take hfi, sel_no (by intro z; exact h2 z.2.1)]
            exact ht
          · rw [hold_take hfi, sel_no (by intro z; exact h2 z.2.1)]
            exact hv2
      · walk_at "z"
        refine ⟨t, v, _, _, rfl, e2, ?_, ?_⟩
        · rw [hold_take hfi, sel_word h1]
          exact ht
        · rw [hold_take hfi, sel_word h1]
          exact hv2
    · obtain ⟨t, v, v6, v7, rfl, e2, ht, hv2⟩ := h
      walk_at "z"
      rw [List.take_of_length_le (by rw [rfs_len hf]; exact Nat.le_refl _)] at hv2
      exact k _ _ e2 hv2

theorem cut2 {x y z : V} {r : List V} : cutV (x :: y :: z :: r) none (some 2) = [x, y] := by
  unfold cutV
  rw [show ((2 : Int)) = ((2 : Nat) : Int) from rfl, HT.sIx_nat, HT.sIx_none]
  simp
theorem s_slT2 {H : Hp} {Q : VK} {a : Addr} {x y z : V} {r : List V} (h : SqT K H a (x :: y :: z :: r)) (k : NewO (.tup [x, y]) H Q) : rSlT K (.ref a) none (some 2) H Q :=
  s_slT (r.length + 3) [x, y] h rfl (by
    rw [show ((2 : Int)) = ((2 : Nat) : Int) from rfl, HT.sIx_nat]
    omega) cut2 k
theorem eqv_pair (a b : Str) (m n : Int) : PyData.eqv (.tuple [.str a, .int m]) (.tuple [.str b, .int n]) = decide (a = b ∧ m = n) := by
  unfold PyData.eqv
  unfold PyData.eqvAll
  unfold PyData.eqvAll
  unfold PyData.eqvAll
  unfold PyData.eqv
  by_cases h1 : a = b
  · by_cases h2 : m = n
    · simp [h1, h2]
    · simp [h1, h2]
  · simp [h1]
theorem s_neP {H : Hp} {Q : VK} {p q : Addr} {a b : Str} {m n : Int} (h1 : SqT K H p [.str a, .int m]) (h2 : SqT K H q [.str b, .int n]) (ok1 : PyData.strOk a = true) (ok2 : PyData.strOk b = true) (k : Q (.bl (!decide (a = b ∧ m = n))) H) : rNeD K (.ref p) (.ref q) H Q := by
  refine ⟨_, _, .tup h1 (.cons (.str _) (.cons (.int _) .nil)), .tup h2 (.cons (.str _) (.cons (.int _) .nil)), ?_, ?_, ?_⟩
  · simp [SeqAt.shaped, PyData.canLay0, PyData.canLayAll0, ok1, PyData.depth, PyData.depthAll]
  · simp [SeqAt.shaped, PyData.canLay0, PyData.canLayAll0, ok2, PyData.depth, PyData.depthAll]
  · rw [eqv_pair]
    exact k
theorem gf_strOk {f : Fct} (h : GF f) : PyData.strOk f.w = true := by
  cases h <;> (dsimp only; decide +kernel)
theorem wd_strOk {w : Str} (h : Wd w) : PyData.strOk w = true := by
  rcases h with rfl | rfl | rfl <;> decide +kernel
theorem fds_three {K : PySem.W.Frag} {H : Hp} {vs : List V} {g : Int} {x : Arg} {r : List Arg} (h : FDs K H vs (.i g :: x :: r)) : ∃ v us, vs = .int g :: v :: us := fds_two h
theorem sel_not {w fw : Str} {g d g1 : Int} {r : List Arg} {b : Int × Arg} (h : ¬ (fw = w ∧ g1 = g)) : sel w g d ⟨fw, .i g1 :: r⟩ b = b := by
  unfold sel
  split
  · rename_i e
    injection e with e _
    injection e with e
    subst e
    exact if_neg fun z => h ⟨z.1, z.2.1⟩
  · rfl
theorem sc_p_holding : FnScope ["facts", "word", "gate", "day", "unsaid", "latest", "held", "number", "fact"] ["facts", "word", "gate", "day", "unsaid"] (defScope s_p_holding) :=
  ⟨rfl, rfl, rfl, by decide +kernel, rfl, by decide +kernel, by decide +kernel⟩
theorem ok_p_holding (T : Tx P K mg w) : FnOk P w K mg base CX0 1 T.f_p_holding T.d_p_holding ["facts", "word", "gate", "day", "unsaid"] (spHold K) := by
  refine T.F_p_holding.ok sc_p_holding (fun vs H Q E h => ?_) (fun cdv A outer s H vs Q E hr h => ?_)
  · obtain ⟨l, wd, g, d, v, o, fs, rfl, _⟩ := h
    rfl
  · obtain ⟨l, wd, g, d, v0, o, fs, rfl, ⟨vs, hl, hf⟩, gfs, hw, hv, k⟩ := h
    refine ⟨_, (pss_cons (ps_set (i := 5) sc_p_holding.nd rfl (Or.inl rfl) (pe_tup (pa_cons (pe_un un_neg pe_int) (pa_cons pe_int pa_nil)))) (pss_cons (ps_set (i := 6) sc_p_holding.nd rfl (Or.inl rfl) (pv 4)) (pss_cons (ps_for PassesOwn.never rfl (pi_list (pv 0)) (pg_tup (by rfl) (pgs_cons (pg_name (i := 7) sc_p_holding.nd rfl (Or.inl rfl)) (pgs_cons (pg_name (i := 8) sc_p_holding.nd rfl (Or.inl rfl)) pgs_nil))) (pss_cons (ps_if (PW.pt (pw_or (pt_cmpR (r := rNeD K) (op_neD hr.units) (pe_slice (r := rSlT K) sl_tup (pv 8) po_none (po_some pe_int)) (pe_tup (pa_cons (pv 1) (pa_cons (pv 2) pa_nil))) (nomark _)) (pw_or1 (pt_cmpR op_gt (pe_ix (r := rIxT K) ix_tup (pv 8) pe_int (fun _ _ => rfl)) (pv 3) (nomark _))))) (pss_one ps_continue) pss_nil) (pss_one (ps_if (pt_cmpR (op_gtT2 hr.units0) (pe_tup (pa_cons (pe_ix (r := rIxT K) ix_tup (pv 8) pe_int (fun _ _ => rfl)) (pa_cons (pv 7) pa_nil))) (pv 5) (nomark _)) (pss_cons (ps_set (i := 5) sc_p_holding.nd rfl (Or.inl rfl) (pe_tup (pa_cons (pe_ix (r := rIxT K) ix_tup (pv 8) pe_int (fun _ _ => rfl)) (pa_cons (pv 7) pa_nil)))) (pss_one (ps_set (i := 6) sc_p_holding.nd rfl (Or.inl rfl) (pe_ix (r := rIxT K) ix_tup (pv 8) pe_int (fun _ _ => rfl))))) pss_nil)))) (pss_one (ps_ret (pv 6)))))), ?_⟩
    refine at_start (ρ' := [some _, some _, some _, some _, some _, none, none, none, none]) rfl ?_
    walk_at "z0"
    walk_at "z"
    rename_i t0 H1 _ e1 ht0
    refine l_list vs (fun i σ H' => ∃ t v n0 v7 v8, σ = [some (.ref l), some (.str wd), some (.int g), some (.int d), some v0, some (.ref t), some v, v7, v8] ∧ Ex H H' ∧ SqT K H' t [.int (holdF wd g d o (fs.take i)).1, .int n0] ∧ FD K H' v (holdF wd g d o (fs.take i)).2 ∧ ∀ j p, i ≤ j → fs[j]? = some p → n0 < p.1)
      ⟨t0, v0, 0, _, _, rfl, e1, SqT.of ht0, fd_ex e1 hv, fun j p _ hp => by have := gfs.one _ (List.mem_of_getElem? hp); omega⟩ (fun i σ H' hi h => ?_) (fun i x σ H2 hi h => ?_) (fun σ H2 h => ?_)
    · obtain ⟨t, v, n0, v7, v8, rfl, e2, _⟩ := h
      exact e2.sqL hl
    · obtain ⟨t, v, n0, v7, v8, rfl, e2, ht, hv2, hn⟩ := h
      obtain ⟨p, n, u, f, hfi, rfl, hp, a, us, rfl, ha, hu⟩ := rfs_get hf hi
      replace hp := e2.sqT hp
      replace ha := e2.sqT ha
      have gf := gfs.good _ (List.mem_of_getElem? hfi)
      have hlt : n0 < n := hn i _ (Nat.le_refl _) hfi
      have hn' : ∀ j p, i + 1 ≤ j → fs[j]? = some p → n0 < p.1 := fun j p hj hp => hn j p (by omega) hp
      have hn2 : ∀ j p, i + 1 ≤ j → fs[j]? = some p → n < p.1 := fun j p hj hp => by
        have z := gfs.rise
        rw [List.pairwise_iff_getElem] at z
        obtain ⟨hj1, hj2⟩ := List.getElem?_eq_some_iff.mp hp
        obtain ⟨hi1, hi2⟩ := List.getElem?_eq_some_iff.mp hfi
        have y := z i j (by rw [List.length_map]; exact hi1) (by rw [List.length_map]; exact hj1) (by omega)
        rw [List.getElem_map, List.getElem_map, hi2, hj2] at y
        exact y
      have ok1 := gf_strOk gf
      have ok2 := wd_strOk hw
      obtain ⟨g1, x1, r1, ef⟩ := gf_head gf
      obtain ⟨fw, fx⟩ := f
      dsimp only at ef ha hu hfi ok1 gf
      injection ef with _ ef
      subst ef
      obtain ⟨v1, us1, rfl⟩ := fds_two hu
      walk_at "z"
      refine s_slT2 ha ?_
      refine s_new fun q1 H3 _ e3 hq1 => ?_
      walk_at "z"
      rename_i q2 H4 _ e4 hq2
      refine s_neP (SqT.of (e4 _ _ hq1)) (SqT.of hq2) ok1 ok2 ?_
      have e24 := e3.trans e4
      walk_at "z"
      refine ite_ndec (fun h1 => ?_) (fun h1 => ?_)
      · walk_at "z"
        refine s_cont ⟨t, v, n0, _, _, rfl, e2.trans e24, ?_, ?_, hn'⟩
        · rw [hold_take hfi, sel_not h1]
          exact e24.sqT ht
        · rw [hold_take hfi, sel_not h1]
          exact fd_ex e24 hv2
      · obtain ⟨rfl, rfl⟩ := h1
        obtain ⟨g', d', x, ef, hd, _⟩ := gf_hold gf hw
        injection ef with _ ef
        rw [ef] at hu gf hfi
        obtain ⟨v3, ev, hx⟩ := fds3 hu
        rw [ev] at ha hu
        replace ha := e24.sqT ha
        replace hx := fd_ex e24 (fd_ex e2 hx)
        replace hv2 := fd_ex e24 hv2
        replace e2 := e2.trans e24
        replace ht := e24.sqT ht
        injection ef with eg _
        injection eg with eg
        subst eg
        walk_at "z"
        refine ite_dec (fun h2 => ?_) (fun h2 => ?_)
        · walk_at "z"
          refine s_cont ⟨t, v, n0, _, _, rfl, e2, ?_, ?_, hn'⟩
          · rw [hold_take hfi, sel_no (by intro z; omega)]
            exact ht
          · rw [hold_take hfi, sel_no (by intro z; omega)]
            exact hv2
        · walk_at "z"
          rename_i q3 H5 _ e5 hq3
          refine s_gtT2 (SqT.of hq3) (e5.sqT ht) ?_
          walk_at "z"
          refine ite_dec (fun h3 => ?_) (fun h3 => ?_)
          · walk_at "z"
            rename_i q4 H6 _ e6 hq4
            refine ⟨q4, v3, n, _, _, rfl, (e2.trans e5).trans e6, ?_, ?_, hn2⟩
            · rw [hold_take hfi, sel_yes (by omega) (by omega)]
              exact SqT.of hq4
            · rw [hold_take hfi, sel_yes (by omega) (by omega)]
              exact fd_ex e6 (fd_ex e5 hx)
          · walk_at "z"
            refine ⟨t, v, n0, _, _, rfl, e2.trans e5, ?_, ?_, hn'⟩
            · rw [hold_take hfi, sel_no (by intro z; omega)]
              exact e5.sqT ht
            · rw [hold_take hfi, sel_no (by intro z; omega)]
              exact fd_ex e5 hv2
    · obtain ⟨t, v, n0, v7, v8, rfl, e2, ht, hv2, hn⟩ := h
      walk_at "z"
      rw [List.take_of_length_le (by rw [rfs_len hf]; exact Nat.le_refl _)] at hv2
      exact k _ _ e2 hv2

def spOn (K : PySem.W.Frag) (wd : Str) (o : Arg) : Sp := fun vs H Q _ => ∃ (l : Addr) (g d : Int) (fs : List (Int × Fct)), vs = [.ref l, .int g, .int d] ∧ RL K H l fs ∧ GFs fs ∧ ∀ v' H', Ex H H' → FD K H' v' (holdF wd g d o fs).2 → Q v' H'
theorem sc_p_toll_on : FnScope ["facts", "gate", "day"] ["facts", "gate", "day"] (defScope s_p_toll_on) :=
  ⟨rfl, rfl, rfl, by decide +kernel, rfl, by decide +kernel, by decide +kernel⟩
theorem ok_p_toll_on (T : Tx P K mg w) : FnOk P w K mg base CX0 2 T.f_p_toll_on T.d_p_toll_on ["facts", "gate", "day"] (spOn K "toll" (.i 0)) := by
  refine T.F_p_toll_on.ok sc_p_toll_on (fun vs H Q E h => ?_) (fun cdv A outer s H vs Q E hr h => ?_)
  · obtain ⟨l, g, d, fs, rfl, _⟩ := h
    rfl
  · obtain ⟨l, g, d, fs, rfl, rl, gfs, k⟩ := h
    refine ⟨_, (pss_one (ps_ret (pe_call (ok_p_holding T) (hr.mono (by decide)) rfl T.g_p_holding T.F_p_holding.kp T.b_p_holding .nil pass0 (pa_cons (pv 0) (pa_cons pe_str (pa_cons (pv 1) (pa_cons (pv 2) (pa_cons pe_int pa_nil)))))))), ?_⟩
    refine at_start (ρ' := [some _, some _, some _]) rfl ?_
    walk_at "z0"
    walk_at "z"
    exact use_hold rl gfs (.inl rfl) (.i 0) k
/-! what a sel keeps -/
theorem hold_fits {wd : Str} {g d : Int} {o : Arg} (hw : Wd wd) (ho : Fits wd o) {fs : List (Int × Fct)} (hg : ∀ p ∈ fs, GF p.2) : Fits wd (holdF wd g d o fs).2 := by
  unfold holdF
  generalize (-1 : Int) = z
  induction fs generalizing z o with
  | nil => exact ho
  | cons p fs ih =>
    rw [List.foldl_cons]
    have h1 : ∃ z' o', sel wd g d p.2 (z, o) = (z', o') ∧ Fits wd o' := by
      unfold sel
      split
      · rename_i g' d' x e
        split
        · rename_i c
          refine ⟨_, _, rfl, ?_⟩
          obtain ⟨g2, d2, x2, ef, _, hf⟩ := gf_hold (hg p List.mem_cons_self) (by rw [c.1]; exact hw)
          rw [ef] at e
          injection e with _ e
          injection e with _ e
          injection e with e _
          rw [c.1] at hf
          rw [← e]
          exact hf
        · exact ⟨_, _, rfl, ho⟩
      · exact ⟨_, _, rfl, ho⟩
    obtain ⟨z', o', e, hf⟩ := h1
    rw [e]
    exact ih hf (fun q hq => hg q (List.mem_cons_of_mem _ hq)) z'
theorem fits_board {x : Arg} (h : Fits "board" x) : ∃ gs, x = .t gs ∧ Rising gs ∧ ∀ y ∈ gs, R 0 7 y := by
  unfold Fits at h
  rw [if_pos rfl] at h
  exact h
theorem hold_board {g d : Int} {fs : List (Int × Fct)} (h : GFs fs) : ∃ gs, (holdF "board" g d (.t []) fs).2 = .t gs ∧ Rising gs ∧ ∀ y ∈ gs, R 0 7 y :=
  fits_board (hold_fits (.inr (.inl rfl)) (fits_yes List.Pairwise.nil (fun y h => by cases h)) h.good)
theorem hold_int {wd : Str} {g d : Int} {fs : List (Int × Fct)} (h : GFs fs) (hw : Wd wd) (nb : wd ≠ "board") : ∃ n, (holdF wd g d (.i 0) fs).2 = .i n := by
  have z := hold_fits (g := g) (d := d) hw (fits_no nb 0) h.good
  unfold Fits at z
  rw [if_neg nb] at z
  exact z
def Brd (g d : Int) (fs : List (Int × Fct)) (ns : List Int) : Prop := Rising ns ∧ ∀ x : Int, x ∈ ns ↔ x = g ∨ ∃ gs, (holdF "board" g d (.t []) fs).2 = .t gs ∧ x ∈ gs
def spBrd (K : PySem.W.Frag) (tup : Bool) : Sp := fun vs H Q _ => ∃ (l : Addr) (g d : Int) (fs : List (Int × Fct)), vs = [.ref l, .int g, .int d] ∧ RL K H l fs ∧ GFs fs ∧ R 0 7 g ∧ ∀ p ns H', Ex H H' → Brd g d fs ns → H' p = some (if tup then .tup (ns.map V.int) else .lst (ns.map V.int)) → Q (.ref p) H'
theorem len_rising : ∀ {gs : List Int} {n : Nat} {a : Int}, Rising gs → (∀ y ∈ gs, a ≤ y ∧ y < a + n) → gs.length ≤ n
  | [], n, a, _, _ => Nat.zero_le _
  | x :: gs, 0, a, _, h => by
    have := h x List.mem_cons_self
    omega
  | x :: gs, n + 1, a, hr, h => by
    unfold Rising at hr
    rw [List.pairwise_cons] at hr
    have hx := h x List.mem_cons_self
    have := len_rising (gs := gs) (n := n) (a := a + 1) hr.2 fun y hy => by
      have h1 := hr.1 y hy
      have h2 := h y (List.mem_cons_of_mem _ hy)
      omega
    rw [List.length_cons]
    omega
theorem sc_p_board_on : FnScope ["facts", "gate", "day", "named"] ["facts", "gate", "day"] (defScope s_p_board_on) :=
  ⟨rfl, rfl, rfl, by decide +kernel, rfl, by decide +kernel, by decide +kernel⟩
theorem ok_p_board_on (T : Tx P K mg w) : FnOk P w K mg base CX0 2 T.f_p_board_on T.d_p_board_on ["facts", "gate", "day"] (spBrd K true) := by
  refine T.F_p_board_on.ok sc_p_board_on (fun vs H Q E h => ?_) (fun cdv A outer s H vs Q E hr h => ?_)
  · obtain ⟨l, g, d, fs, rfl, _⟩ := h
    rfl
  · obtain ⟨l, g, d, fs, rfl, rl, gfs, hg, k⟩ := h
    refine ⟨_, (pss_cons (ps_set (i := 3) sc_p_board_on.nd rfl (Or.inl rfl) (pe_call (ok_p_holding T) (hr.mono (by decide)) rfl T.g_p_holding T.F_p_holding.kp T.b_p_holding .nil pass0 (pa_cons (pv 0) (pa_cons pe_str (pa_cons (pv 1) (pa_cons (pv 2) (pa_cons (pe_tup pa_nil) pa_nil))))))) (pss_one (ps_ret (pe_callTy (r := rTupleOf K) cz_tupleOf (by rfl) T.z_tuple (by decide +kernel) (pa_cons (pe_callB (cr_sortedSet rfl) (by rfl) T.z_sorted (by decide +kernel) (pa_cons (pe_callTy (cr_setL rfl) (by rfl) T.z_set (by decide +kernel) (pa_cons (pe_lst (pa_cons (pv 1) (pa_starT (pv 3) pa_nil))) pa_nil)) pa_nil)) pa_nil))))), ?_⟩
    refine at_start (ρ' := [some _, some _, some _, none]) rfl ?_
    walk_at "z0"
    walk_at "z"
    rename_i t0 H1 _ e1 ht0
    refine use_hold (rl_ex e1 rl) gfs (.inr (.inl rfl)) (.t (l := []) (SqT.of ht0)) fun v H2 e2 hv => ?_
    obtain ⟨gs, eg, hgr, hgb⟩ := hold_board (g := g) (d := d) gfs
    rw [eg] at hv
    cases hv with
    | t hn =>
    walk_at "z"
    have hlen : gs.length ≤ 8 := len_rising (n := 8) (a := 0) hgr fun y hy => by
      have h := hgb y hy
      exact ⟨h.1, by have := h.2; omega⟩
    refine s_star ?_
    walk_at "z"
    refine ⟨_, _, rfl, hn, ?_⟩
    refine s_nil ?_
    refine s_newS (sz (by simp; omega)) fun q H3 _ e3 hq => ?_
    rw [List.append_nil] at hq
    walk_at "z"
    refine s_setOf (ns := g :: gs) (SqL.of hq) (by unfold scanBound; simp; omega) fun p S m H4 _ e4 hp hm hx => ?_
    walk_at "z"
    refine s_sortedSet hp (by simp at hm; omega) fun ns r H5 hns hns2 hl5 _ e5 hr5 => ?_
    walk_at "z"
    rename_i u H6 _ e6 hu
    refine k u ns H6 (by walk_at "zex") ⟨hns, fun x => ?_⟩ hu
    rw [hns2, hx, List.mem_cons, eg]
    exact ⟨fun h => h.imp id fun h => ⟨gs, rfl, h⟩, fun h => h.imp id fun ⟨gs', e, h⟩ => by
      injection e with e
      rw [e]
      exact h⟩
theorem inV_ints (x : Int) (gs : List Int) : inV (.int x) (gs.map V.int) = decide (x ∈ gs) := by
  unfold inV
  rw [List.any_map]
  induction gs with
  | nil => rfl
  | cons y gs ih =>
    rw [List.any_cons, ih]
    show ((y == x) || _) = _
    by_cases h : y = x
    · subst h
      simp
    · have : ¬ x = y := fun z => h z.symm
      simp [h, this]
theorem flat_ints (gs : List Int) : (gs.map V.int).all flatV = true := by
  rw [List.all_map]
  exact List.all_eq_true.mpr fun _ _ => rfl
theorem sc_l_clears : FnScope ["_law_facts_here", "_law_gate_here", "_law_day_here", "_law_named", "_law_one"] ["_law_facts_here", "_law_gate_here", "_law_day_here"] (defScope s_l_clears) :=
  ⟨rfl, rfl, rfl, by decide +kernel, rfl, by decide +kernel, by decide +kernel⟩
theorem ok_l_clears (T : Tx P K mg w) : FnOk P w K mg base CX0 2 T.f_l_clears T.d_l_clears ["_law_facts_here", "_law_gate_here", "_law_day_here"] (spBrd K false) := by
  refine T.F_l_clears.ok sc_l_clears (fun vs H Q E h => ?_) (fun cdv A outer s H vs Q E hr h => ?_)
  · obtain ⟨l, g, d, fs, rfl, _⟩ := h
    rfl
  · obtain ⟨l, g, d, fs, rfl, rl, gfs, hg, k⟩ := h
    refine ⟨_, (pss_cons (ps_set (i := 3) sc_l_clears.nd rfl (Or.inr rfl) (pe_call (ok_l_hold T) (hr.mono (by decide)) rfl T.g_l_hold T.F_l_hold.kp T.b_l_hold .nil pass0 (pa_cons (pv 0) (pa_cons pe_str (pa_cons (pv 1) (pa_cons (pv 2) (pa_cons (pe_tup pa_nil) pa_nil))))))) (pss_one (ps_ret (pe_lc (own := [("_law_one", 4)]) (by rfl) sc_l_clears.nd (pi_range1 (by rfl) T.z_range (pa_cons pe_int pa_nil)) (blkOk_by (own := [("_law_one", 4)]) (N := ["_law_facts_here", "_law_gate_here", "_law_day_here", "_law_named", "_law_one"]) (sc := defScope s_l_clears) (by decide +kernel)) (fun _ _ _ _ _ => (pg_name (i := 4) sc_l_clears.nd rfl (Or.inl rfl))) (fun _ _ _ _ _ => (pts_one (PW.pt (pw_or (pt_cmpR (r := rIn K false) op_in_seq (pv 4) (pv 3) (by rfl)) (pw_or1 (pt_cmpR op_eq (pv 4) (pv 1) (nomark _))))))) (fun _ _ _ _ _ => (pv 4)))))), ?_⟩
    refine at_start (ρ' := [some _, some _, some _, none, none]) rfl ?_
    walk_at "z0"
    walk_at "z"
    rename_i t0 H1 _ e1 ht0
    refine use_hold (rl_ex e1 rl) gfs (.inr (.inl rfl)) (.t (l := []) (SqT.of ht0)) fun v H2 e2 hv => ?_
    obtain ⟨gs, eg, hgr, hgb⟩ := hold_board (g := g) (d := d) gfs
    rw [eg] at hv
    cases hv with
    | t hn =>
    walk_at "z"
    refine c_range (by decide) (fun D H' => H2 D = none ∧ Ex H2 H') (fun D i l H' => ∃ ns : List Int, l = ns.map V.int ∧ Rising ns ∧ ∀ x : Int, x ∈ ns ↔ (x = g ∨ x ∈ gs) ∧ x < i) (fun D H' n e _ => ⟨⟨n, e⟩, [], rfl, List.Pairwise.nil, fun x => ⟨fun h => (by cases h), fun h => (by
      exfalso
      rcases h with ⟨rfl | h, h2⟩
      · have := hg.1; omega
      · have := (hgb x h).1; omega)⟩⟩) (fun D i l H3 hi Iv hl hz r => ?_) (fun D l H3 Iv hl hz r => ?_)
    · obtain ⟨nD, e3⟩ := Iv
      obtain ⟨ns, rfl, hr1, hm⟩ := r
      refine ⟨rfl, ?_⟩
      walk_at "z"
      refine s_rInSeq (.inr (e3.sqT hn)) rfl (flat_ints gs) ?_
      rw [inV_ints]
      walk_at "z"
      have put : ((i : Int) = g ∨ (i : Int) ∈ gs) → ∃ ms : List Int, ns.map V.int ++ [V.int i] = ms.map V.int ∧ Rising ms ∧ ∀ x : Int, x ∈ ms ↔ (x = g ∨ x ∈ gs) ∧ x < ((i + 1 : Nat) : Int) := fun h => by
        refine ⟨ns ++ [(i : Int)], by rw [List.map_append]; rfl, ?_, fun x => ?_⟩
        · refine List.pairwise_append.mpr ⟨hr1, List.pairwise_singleton _ _, fun x hx y hy => ?_⟩
          rw [List.mem_singleton] at hy
          rw [hy]
          exact ((hm x).mp hx).2
        · rw [List.mem_append, List.mem_singleton, hm]
          constructor
          · rintro (⟨h1, h2⟩ | rfl)
            · exact ⟨h1, by omega⟩
            · exact ⟨h, by omega⟩
          · rintro ⟨h1, h2⟩
            by_cases e : x = (i : Int)
            · exact .inr e
            · exact .inl ⟨h1, by omega⟩
      have skip : ¬ ((i : Int) = g ∨ (i : Int) ∈ gs) → ∃ ms : List Int, ns.map V.int = ms.map V.int ∧ Rising ms ∧ ∀ x : Int, x ∈ ms ↔ (x = g ∨ x ∈ gs) ∧ x < ((i + 1 : Nat) : Int) := fun h => by
        refine ⟨ns, rfl, hr1, fun x => ?_⟩
        rw [hm]
        constructor
        · rintro ⟨h1, h2⟩
          exact ⟨h1, by omega⟩
        · rintro ⟨h1, h2⟩
          refine ⟨h1, ?_⟩
          have : x ≠ (i : Int) := fun e => h (by rw [← e]; exact h1)
          omega
      refine ite_dec (fun h1 => ?_) (fun h1 => ?_)
      · walk_at "z"
        exact c_put hl (by omega) fun H5 f5 _ => ⟨⟨nD, fun a o h => f5 a o (ne_of_none h nD) (e3 _ _ h)⟩, put (.inr h1)⟩
      · walk_at "z"
        refine ite_dec (fun h2 => ?_) (fun h2 => ?_)
        · walk_at "z"
          exact c_put hl (by omega) fun H5 f5 _ => ⟨⟨nD, fun a o h => f5 a o (ne_of_none h nD) (e3 _ _ h)⟩, put (.inl h2)⟩
        · walk_at "z"
          exact c_skip hl hz ⟨nD, e3⟩ (skip fun h => h.elim h2 h1)
    · obtain ⟨nD, e3⟩ := Iv
      obtain ⟨ns, rfl, hr1, hm⟩ := r
      walk_at "z"
      refine k D ns H3 (by walk_at "zex") ⟨hr1, fun x => ?_⟩ hl
      rw [hm, eg]
      constructor
      · rintro ⟨h1, h2⟩
        exact h1.imp id fun h => ⟨gs, rfl, h⟩
      · intro h
        have h' : x = g ∨ x ∈ gs := h.imp id fun ⟨gs', e, h⟩ => by
          injection e with e
          rw [e]
          exact h
        refine ⟨h', ?_⟩
        rcases h' with rfl | h'
        · have := hg.2
          show _ < (8 : Int)
          omega
        · have := (hgb x h').2
          show _ < (8 : Int)
          omega

/-! numbers within their bounds -/
def within (lo : Int) (hi : Option Int) (n : Int) : Bool := decide (lo ≤ n) && (match hi with | none => true | some h => decide (n ≤ h))
def optV (b : Option Int) : V := match b with | none => .non | some n => .int n
def optD (b : Option Int) : PyData := match b with | none => .none | some n => .int n
def spGood (K : PySem.W.Frag) (w : World) (B : Addr) : Sp := fun vs H Q _ => ∃ (kind : Str) (n lo : Int) (hi : Option Int) (t : Addr), vs = [.str kind, .int n] ∧ KDct K w B kind (.ref t) ∧ (∀ {H : Hp}, SqT K H t [.int lo, optV hi]) ∧ Q (.bl (within lo hi n)) H
def spNum : Sp := fun vs H Q _ => ∃ n : Int, vs = [.int n] ∧ Q (.bl true) H
theorem sc_p_is_number : FnScope ["thing"] ["thing"] (defScope s_p_is_number) :=
  ⟨rfl, rfl, rfl, by decide +kernel, rfl, by decide +kernel, by decide +kernel⟩
theorem ok_p_is_number (T : Tx P K mg w) : FnOk P w K mg base CX0 1 T.f_p_is_number T.d_p_is_number ["thing"] spNum := by
  refine T.F_p_is_number.ok sc_p_is_number (fun vs H Q E h => ?_) (fun cdv A outer s H vs Q E hr h => ?_)
  · obtain ⟨n, rfl, _⟩ := h
    rfl
  · obtain ⟨n, rfl, k⟩ := h
    refine ⟨_, (pss_one (ps_ret (pe_and (pe_callB (r := rIsi K) call_isi (by rfl) T.z_isinstance (by decide +kernel) (pa_cons (pv 0) (pa_cons (pe_bltn (v := .ty "int") rfl T.z_int (by decide +kernel) rfl) pa_nil))) (pe_one (pe_not (pe_callB (r := rIsi K) call_isi (by rfl) T.z_isinstance (by decide +kernel) (pa_cons (pv 0) (pa_cons (pe_bltn (v := .ty "bool") rfl T.z_bool (by decide +kernel) rfl) pa_nil)))))))), ?_⟩
    refine at_start (ρ' := [some _]) rfl ?_
    walk_at "z0"
    walk_at "z"
    exact k
theorem sc_p_is_good : FnScope ["kind", "number", "least", "greatest"] ["kind", "number"] (defScope s_p_is_good) :=
  ⟨rfl, rfl, rfl, by decide +kernel, rfl, by decide +kernel, by decide +kernel⟩
theorem ok_p_is_good (T : Tx P K mg w) : FnOk P w K mg base CX0 2 T.f_p_is_good T.d_p_is_good ["kind", "number"] (spGood K w T.B_BOUNDS) := by
  refine T.F_p_is_good.ok sc_p_is_good (fun vs H Q E h => ?_) (fun cdv A outer s H vs Q E hr h => ?_)
  · obtain ⟨kind, n, lo, hi, t, rfl, _⟩ := h
    rfl
  · obtain ⟨kind, n, lo, hi, t, rfl, hk, ht, k⟩ := h
    refine ⟨_, (pss_cons (ps_if (pt_not (pt_val (pe_call (ok_p_is_number T) (hr.mono (by decide)) rfl T.g_p_is_number T.F_p_is_number.kp T.b_p_is_number .nil pass0 (pa_cons (pv 1) pa_nil)))) (pss_one (ps_ret pe_bl)) pss_nil) (pss_cons (ps_asg (pe_ix (r := rIxD K w) ix_kdict (pe_glob (v := .ref T.B_BOUNDS) rfl T.g_BOUNDS rfl) (pv 0) (fun _ _ => rfl)) (pg_tup (by rfl) (pgs_cons (pg_name (i := 2) sc_p_is_good.nd rfl (Or.inl rfl)) (pgs_cons (pg_name (i := 3) sc_p_is_good.nd rfl (Or.inl rfl)) pgs_nil)))) (pss_one (ps_ret (pe_and (pe_cmpR op_le (pv 2) (pv 1) (nomark _)) (pe_one (pe_or (pe_cmpR op_isN1 (pv 3) pe_non (nomark _)) (pe_one (pe_cmpR op_le (pv 1) (pv 3) (nomark _)))))))))), ?_⟩
    refine at_start (ρ' := [some _, some _, none, none]) rfl ?_
    walk_at "z0"
    walk_at "z"
    refine ⟨n, rfl, ?_⟩
    walk_at "z"
    refine s_kix hk ?_
    refine s_gTup ht rfl ?_
    walk_at "z"
    by_cases h1 : lo ≤ n
    · refine ite_pos h1 ?_
      walk_at "z"
      unfold within at k
      rw [decide_eq_true h1, Bool.true_and] at k
      cases hi with
      | none =>
        refine ite_tE rfl ?_
        exact k
      | some m =>
        refine ite_fE rfl ?_
        walk_at "z"
        exact s_rI0 (a := n) (b := m) k
    · refine ite_neg h1 ?_
      unfold within at k
      rw [decide_eq_false h1, Bool.false_and] at k
      exact k
def spNeed (lo hi : Int) : Sp := fun vs H Q _ => ∃ n : Int, vs = [.int n] ∧ lo ≤ n ∧ n ≤ hi ∧ Q .non H
theorem within_in {lo hi n : Int} (h1 : lo ≤ n) (h2 : n ≤ hi) : within lo (some hi) n = true := by
  unfold within
  rw [decide_eq_true h1, Bool.true_and]
  exact decide_eq_true h2

/-! defs that raise: what they leave where they do -/
theorem s_mkO {C : Addr} {sp : Sp} {dvs : List V} {ta : TA} {σ : L2.St} {H : Hp} {Q : XK} (k : ta σ H fun vs H1 => vs.length ≤ 1000 ∧ ∀ a, H1 a = none → sp (.ref a :: (vs ++ dvs)) (upd H1 a (exo a C none))
  (fun v H2 => v = .non ∧ ∃ (d : Addr) (fs : List (Str × V)), H2 a = some (exo a C (some d)) ∧ H2 d = some (exd d fs) ∧ H1 d = none ∧ Q (.ref C) (some d) (upd (del H2 a) d (.xd fs))) (fun _ _ _ => False)) : tMkO C sp dvs ta σ H Q := k
theorem len_bad {vs : List V} {H : Hp} {Q : VK} {E : XK} {lo hi : Int} {C : Addr} {fs : Int → List (Str × V)} (h : spBad lo hi C fs vs H Q E) : vs.length = 1 := by
  obtain ⟨n, rfl, _⟩ := h
  rfl
def spBadPass (K : PySem.W.Frag) (C : Addr) : Sp := fun vs H _ E => ∃ (l : Addr) (n : Int) (fs : List (Int × Fct)), vs = [.ref l, .int n] ∧ RL K H l fs ∧ GFs fs ∧ (∀ f, (n, f) ∈ fs → f.w ≠ "pass") ∧ n.natAbs.log2 < 1920 ∧
  ∀ d, H d = none → E (.ref C) (some d) (upd H d (.xd [("number", .int n), ("called", .str "NoPassing")]))
theorem len_p_need_passing {C : Addr} {vs : List V} {H : Hp} {Q : VK} {E : XK} (h : spBadPass K C vs H Q E) : vs.length = 2 := by
  obtain ⟨l, n, fs, rfl, _⟩ := h
  rfl
theorem len_p_row_of {C : Addr} {vs : List V} {H : Hp} {Q : VK} {E : XK} (h : spBadPass K C vs H Q E) : vs.length = 2 := len_p_need_passing h
theorem len_p_why {C : Addr} {vs : List V} {H : Hp} {Q : VK} {E : XK} (h : spBadPass K C vs H Q E) : vs.length = 2 := len_p_need_passing h
theorem within_out {lo hi n : Int} (h : ¬ (lo ≤ n ∧ n ≤ hi)) : within lo (some hi) n = false := by
  unfold within
  by_cases h1 : lo ≤ n
  · rw [decide_eq_true h1, Bool.true_and]
    exact decide_eq_false fun z => h ⟨h1, z⟩
  · rw [decide_eq_false h1, Bool.false_and]
theorem len_p_need_carriage {vs : List V} {H : Hp} {Q : VK} {E : XK} {lo hi : Int} {C : Addr} {fs : Int → List (Str × V)} (h : spBad lo hi C fs vs H Q E) : vs.length = 1 := len_bad h
theorem len_p_need_day {vs : List V} {H : Hp} {Q : VK} {E : XK} {lo hi : Int} {C : Addr} {fs : Int → List (Str × V)} (h : spBad lo hi C fs vs H Q E) : vs.length = 1 := len_bad h
/-- facts, a carriage and a day, one of the two is none -/
def spBadDW (Cn Cb : Addr) : Sp := fun vs H _ E => (∃ (l : Addr) (c d : Int), vs = [.ref l, .int c, .int d] ∧ ¬ (0 ≤ c ∧ c ≤ 9) ∧ c.natAbs.log2 < 1920 ∧ ∀ x, H x = none → E (.ref Cn) (some x) (upd H x (.xd [("number", .int c), ("called", .str "NoCarriage")]))) ∨
  ∃ (l : Addr) (c d : Int), vs = [.ref l, .int c, .int d] ∧ R 0 9 c ∧ ¬ (0 ≤ d ∧ d ≤ 999) ∧ d.natAbs.log2 < 1920 ∧ ∀ x, H x = none → E (.ref Cb) (some x) (upd H x (.xd [("called", .str "BadDay")]))
theorem len_p_day_walk {Cn Cb : Addr} {vs : List V} {H : Hp} {Q : VK} {E : XK} (h : spBadDW Cn Cb vs H Q E) : vs.length = 3 := by
  rcases h with ⟨l, c, d, rfl, _⟩ | ⟨l, c, d, rfl, _⟩ <;> rfl
theorem len_p_owes {Cn Cb : Addr} {vs : List V} {H : Hp} {Q : VK} {E : XK} (h : spBadDW Cn Cb vs H Q E) : vs.length = 3 := len_p_day_walk h
/-- facts and a day that is none -/
def spBadB (Cb : Addr) : Sp := fun vs H _ E => ∃ (l : Addr) (d : Int), vs = [.ref l, .int d] ∧ ¬ (0 ≤ d ∧ d ≤ 999) ∧ d.natAbs.log2 < 1920 ∧ ∀ x, H x = none → E (.ref Cb) (some x) (upd H x (.xd [("called", .str "BadDay")]))
theorem len_p_balances {Cb : Addr} {vs : List V} {H : Hp} {Q : VK} {E : XK} (h : spBadB Cb vs H Q E) : vs.length = 2 := by
  obtain ⟨l, d, rfl, _⟩ := h
  rfl


/-! a day's walk, as a function -/
structure Spot where
  m : Int
  n : Int
  g : Int
  h : Int
def Spot.l (s : Spot) : List Int := [s.m, s.n, s.g, s.h]
theorem Spot.l_inj {a b : Spot} (h : a.l = b.l) : a = b := by
  obtain ⟨a1, a2, a3, a4⟩ := a
  obtain ⟨b1, b2, b3, b4⟩ := b
  unfold Spot.l at h
  simpa using h
def spotF (c d : Int) (p : Int × Fct) : Option Spot :=
  match p.2.xs with
  | [.i d', .i m, .i g, .i c', .i h] => if p.2.w = "pass" ∧ d' = d ∧ c' = c then some ⟨m, p.1, g, h⟩ else none
  | _ => none
def spotsF (c d : Int) (fs : List (Int × Fct)) : List Spot := fs.filterMap (spotF c d)
def leS (a b : Spot) : Bool := !HT.lexLt b.l a.l
def ordF (c d : Int) (fs : List (Int × Fct)) : List Spot := (spotsF c d fs).mergeSort leS
def inBrd (fs : List (Int × Fct)) (d g x : Int) : Bool := x == g || (match (holdF "board" g d (.t []) fs).2 with | .t gs => decide (x ∈ gs) | _ => false)
def argI (x : Arg) : Int := match x with | .i n => n | _ => 0
def tollF (fs : List (Int × Fct)) (g d : Int) : Int := argI (holdF "toll" g d (.i 0) fs).2
def fareF (fs : List (Int × Fct)) (g h d : Int) : Int := if d % 7 = 6 then tollF fs g d * h * 2 else tollF fs g d * h
def folkF (c d : Int) (p : Int × Fct) : Bool := match p.2.xs with | [.i c', .i a, .i b] => decide (p.2.w = "folk" ∧ c' = c ∧ a ≤ d ∧ d ≤ b) | _ => false
def bargF (g c d : Int) (p : Int × Fct) : Bool := match p.2.xs with | [.i g', .i c', .i a, .i b] => decide (p.2.w = "bargain" ∧ g' = g ∧ c' = c ∧ a ≤ d ∧ d ≤ b) | _ => false
def freeF (fs : List (Int × Fct)) (c g d : Int) : Str := if fs.any (folkF c d) then "folk" else if fs.any (bargF g c d) then "bargain" else ""
def lostF (n : Int) (p : Int × Fct) : Option Int := match p.2.xs with | [.i n', .i m] => if p.2.w = "lost" ∧ n' = n then some m else none | _ => none
def lostB (fs : List (Int × Fct)) (n m : Int) : Bool := (fs.filterMap (lostF n)).any fun k => decide (k ≤ m)
def barF (fs : List (Int × Fct)) (d : Int) (t s : Spot) : Str :=
  if inBrd fs d t.g s.g = false then "board" else if t.h < s.h then "horses" else if lostB fs t.n s.m then "lost" else ""
structure Row where
  n : Int
  w : Str
  b : Option Int
  h : Int
def Row.v (r : Row) : List V := [.int r.n, .str r.w, optV r.b, .int r.h]
def Row.d (r : Row) : PyData := .tuple [.int r.n, .str r.w, optD r.b, .int r.h]
def rowF (fs : List (Int × Fct)) (c d : Int) (ts : List Spot) (s : Spot) : Row :=
  if fs.any (folkF c d) then ⟨s.n, "folk", none, 0⟩ else if fs.any (bargF s.g c d) then ⟨s.n, "bargain", none, 0⟩ else
  match ts.find? (fun t => decide (barF fs d t s = "")) with
  | some t => ⟨s.n, "ticket", some t.n, 0⟩
  | none => ⟨s.n, "owed", none, fareF fs s.g s.h d⟩
abbrev Bars := List (Int × Str)
def barsF (fs : List (Int × Fct)) (d : Int) (ts : List Spot) (s : Spot) : Bars := ts.map fun t => (t.n, barF fs d t s)
def stepF (fs : List (Int × Fct)) (c d : Int) (a : List Spot × List (Row × Bars)) (s : Spot) : List Spot × List (Row × Bars) :=
  (if (rowF fs c d a.1 s).w = "owed" then a.1 ++ [s] else a.1, a.2 ++ [(rowF fs c d a.1 s, barsF fs d a.1 s)])
def runF (fs : List (Int × Fct)) (c d : Int) (l : List Spot) : List Spot × List (Row × Bars) := l.foldl (stepF fs c d) ([], [])
def walkF (fs : List (Int × Fct)) (c d : Int) : List (Row × Bars) := (runF fs c d (ordF c d fs)).2
def rowsF (fs : List (Int × Fct)) (c d : Int) : List Row := (walkF fs c d).map (·.1)
theorem run_take {fs : List (Int × Fct)} {c d : Int} {l : List Spot} {i : Nat} {s : Spot} (e : l[i]? = some s) : runF fs c d (l.take (i + 1)) = stepF fs c d (runF fs c d (l.take i)) s := by
  unfold runF
  rw [List.take_succ, e, List.foldl_append]
  rfl
theorem step_len {fs : List (Int × Fct)} {c d : Int} : ∀ (l : List Spot) (a : List Spot × List (Row × Bars)), (l.foldl (stepF fs c d) a).1.length ≤ a.1.length + l.length ∧ (l.foldl (stepF fs c d) a).2.length = a.2.length + l.length
  | [], a => ⟨Nat.le_refl _, rfl⟩
  | s :: l, a => by
    rw [List.foldl_cons]
    obtain ⟨h1, h2⟩ := step_len (fs := fs) (c := c) (d := d) l (stepF fs c d a s)
    have h3 : (stepF fs c d a s).1.length ≤ a.1.length + 1 := by
      unfold stepF
      dsimp only
      split
      · rw [List.length_append]; exact Nat.le_refl _
      · omega
    have h4 : (stepF fs c d a s).2.length = a.2.length + 1 := by
      unfold stepF
      rw [List.length_append]
      rfl
    rw [List.length_cons]
    exact ⟨by omega, by omega⟩
theorem leS_trans (a b c : Spot) (h1 : leS a b = true) (h2 : leS b c = true) : leS a c = true := by
  unfold leS at *
  rw [Bool.not_eq_true'] at *
  exact lx_tr h1 h2
theorem leS_total (a b : Spot) : (leS a b || leS b a) = true := by
  unfold leS
  cases h : HT.lexLt b.l a.l with
  | false => rfl
  | true => rw [lx_asym h]; rfl
theorem ord_perm (c d : Int) (fs : List (Int × Fct)) : (ordF c d fs).Perm (spotsF c d fs) := List.mergeSort_perm _ _
theorem ord_sorted (c d : Int) (fs : List (Int × Fct)) : (ordF c d fs).Pairwise (fun a b => HT.lexLt b.l a.l = false) := by
  have h := List.pairwise_mergeSort leS_trans leS_total (spotsF c d fs)
  refine h.imp fun {a b} q => ?_
  unfold leS at q
  rwa [Bool.not_eq_true'] at q
/-- any sorted arrangement is that one -/
theorem map_l_inj : ∀ {a b : List Spot}, a.map Spot.l = b.map Spot.l → a = b
  | [], [], _ => rfl
  | [], _ :: _, h => by cases h
  | _ :: _, [], h => by cases h
  | x :: a, y :: b, h => by
    rw [List.map_cons, List.map_cons] at h
    injection h with h1 h2
    rw [Spot.l_inj h1, map_l_inj h2]
theorem ord_uniq {c d : Int} {fs : List (Int × Fct)} {os : List Spot} (p : os.Perm (spotsF c d fs)) (s : os.Pairwise (fun a b => HT.lexLt b.l a.l = false)) : os = ordF c d fs := by
  exact map_l_inj (lx_uniq ((p.trans (ord_perm c d fs).symm).map Spot.l) (List.pairwise_map.mpr s) (List.pairwise_map.mpr (ord_sorted c d fs)))

theorem gf_arity5 {f : Fct} (h : GF f) (e : f.w ≠ "pass") : ∀ (n c d : Int), spotF c d (n, f) = none := fun n c d => by
  unfold spotF
  cases h <;> first | rfl | (dsimp only; exact if_neg fun z => e z.1)
theorem spots_take {c d : Int} {fs : List (Int × Fct)} {i : Nat} {p : Int × Fct} (e : fs[i]? = some p) : spotsF c d (fs.take (i + 1)) = spotsF c d (fs.take i) ++ (spotF c d p).toList := by
  unfold spotsF
  rw [List.take_succ, e, List.filterMap_append]
  rfl
theorem spots_len {c d : Int} {fs : List (Int × Fct)} : (spotsF c d fs).length ≤ fs.length := by
  unfold spotsF
  exact List.length_filterMap_le _ _
/-- s stands at v -/
def SpotAt (K : PySem.W.Frag) (H : Hp) (v : V) (s : Spot) : Prop := TIs K H v s.l
theorem spotAt_tk {K : PySem.W.Frag} {H H' : Hp} (e : Tk K H H') {vs : List V} {ss : List Spot} (h : All2 (SpotAt K H) vs ss) : All2 (SpotAt K H') vs ss := h.mono fun _ _ q => q.tk e
theorem all2_unmap {α β γ : Type} {R : α → γ → Prop} {f : β → γ} : ∀ {as : List α} {bs : List β}, All2 R as (bs.map f) → All2 (fun a b => R a (f b)) as bs
  | _, [], h => by
    cases h
    exact .nil
  | _, b :: bs, h => by
    rw [List.map_cons] at h
    cases h with
    | cons a r => exact .cons a (all2_unmap r)

/-! what the walk is made of -/
def spFare (K : PySem.W.Frag) : Sp := fun vs H Q _ => ∃ (l : Addr) (g h d : Int) (fs : List (Int × Fct)), vs = [.ref l, .int g, .int h, .int d] ∧ RL K H l fs ∧ GFs fs ∧ R 1 8 h ∧ ∀ H', Ex H H' → Q (.int (fareF fs g h d)) H'
theorem sc_p_fare : FnScope ["facts", "gate", "horses", "day", "halves"] ["facts", "gate", "horses", "day"] (defScope s_p_fare) :=
  ⟨rfl, rfl, rfl, by decide +kernel, rfl, by decide +kernel, by decide +kernel⟩
theorem ok_p_fare (T : Tx P K mg w) : FnOk P w K mg base CX0 3 T.f_p_fare T.d_p_fare ["facts", "gate", "horses", "day"] (spFare K) := by
  refine T.F_p_fare.ok sc_p_fare (fun vs H Q E h => ?_) (fun cdv A outer s H vs Q E hr h => ?_)
  · obtain ⟨l, g, h, d, fs, rfl, _⟩ := h
    rfl
  · obtain ⟨l, g, h, d, fs, rfl, rl, gf, hh, k⟩ := h
    refine ⟨_, (pss_cons (ps_set (i := 4) sc_p_fare.nd rfl (Or.inl rfl) (pe_op op_mul (pe_call (ok_p_toll_on T) (hr.mono (by decide)) rfl T.g_p_toll_on T.F_p_toll_on.kp T.b_p_toll_on .nil pass0 (pa_cons (pv 0) (pa_cons (pv 1) (pa_cons (pv 3) pa_nil)))) (pv 2))) (pss_one (ps_ret (pe_ifExp (pt_cmpR op_eq (pe_op op_mod (pv 3) (pe_glob (v := .int 7) rfl T.k_WEEK ⟨_, rfl⟩)) (pe_glob (v := .int 6) rfl T.k_SUNDAY ⟨_, rfl⟩) (nomark _)) (pe_op op_mul (pv 4) pe_int) (pv 4))))), ?_⟩
    refine at_start (ρ' := [some _, some _, some _, some _, none]) rfl ?_
    walk_at "z0"
    walk_at "z"
    refine ⟨l, g, d, fs, rfl, rl, gf, fun v H1 e1 hv => ?_⟩
    obtain ⟨n, en⟩ := hold_int (g := g) (d := d) gf (.inl rfl) ne_toll_board
    rw [en] at hv
    cases hv
    obtain ⟨h0, h1⟩ := hh
    walk_at "z"
    have et : tollF fs g d = n := by
      unfold tollF
      rw [en]
      rfl
    have ef : fareF fs g h d = if d % 7 = 6 then n * h * 2 else n * h := by
      unfold fareF
      rw [et]
    rw [ef] at k
    refine ite_dec (fun h2 => ?_) (fun h2 => ?_)
    · walk_at "z"
      rw [if_pos h2] at k
      exact k _ e1
    · walk_at "z"
      rw [if_neg h2] at k
      exact k _ e1
def spPass (K : PySem.W.Frag) : Sp := fun vs H Q _ => ∃ (l : Addr) (c d : Int) (fs : List (Int × Fct)), vs = [.ref l, .int c, .int d] ∧ RL K H l fs ∧ GFs fs ∧ fs.length ≤ 1000 ∧ ∀ p vs H', H p = none → Ex H H' → H' p = some (.lst vs) → All2 (SpotAt K H') vs (ordF c d fs) → Q (.ref p) H'
theorem sc_p_passings_on : FnScope ["facts", "carriage", "day", "found", "number", "fact"] ["facts", "carriage", "day"] (defScope s_p_passings_on) :=
  ⟨rfl, rfl, rfl, by decide +kernel, rfl, by decide +kernel, by decide +kernel⟩
theorem ok_p_passings_on (T : Tx P K mg w) : FnOk P w K mg base CX0 1 T.f_p_passings_on T.d_p_passings_on ["facts", "carriage", "day"] (spPass K) := by
  refine T.F_p_passings_on.ok sc_p_passings_on (fun vs H Q E h => ?_) (fun cdv A outer s H vs Q E hr h => ?_)
  · obtain ⟨l, c, d, fs, rfl, _⟩ := h
    rfl
  · obtain ⟨l, c, d, fs, rfl, ⟨vs, hl, hf⟩, gf, hz, k⟩ := h
    refine ⟨_, (pss_cons (ps_set (i := 3) sc_p_passings_on.nd rfl (Or.inl rfl) (pe_lst pa_nil)) (pss_cons (ps_for PassesOwn.never rfl (pi_list (pv 0)) (pg_tup (by rfl) (pgs_cons (pg_name (i := 4) sc_p_passings_on.nd rfl (Or.inl rfl)) (pgs_cons (pg_name (i := 5) sc_p_passings_on.nd rfl (Or.inl rfl)) pgs_nil))) (pss_one (ps_if (PW.pt (pw_and (pt_cmpR op_eq (pe_ix (r := rIxT K) ix_tup (pv 5) pe_int (fun _ _ => rfl)) pe_str (nomark _)) (pw_and (pt_cmpR op_eq (pe_ix (r := rIxT K) ix_tup (pv 5) pe_int (fun _ _ => rfl)) (pv 2) (nomark _)) (pw_and1 (pt_cmpR op_eq (pe_ix (r := rIxT K) ix_tup (pv 5) pe_int (fun _ _ => rfl)) (pv 1) (nomark _)))))) (pss_one (ps_expr (pe_bm PySem.F.plainAttrs_list PySem.F.slot_list_append PySem.F.type_list_append mt_append (pv 3) (pa_cons (pe_tup (pa_cons (pe_ix (r := rIxT K) ix_tup (pv 5) pe_int (fun _ _ => rfl)) (pa_cons (pv 4) (pa_cons (pe_ix (r := rIxT K) ix_tup (pv 5) pe_int (fun _ _ => rfl)) (pa_cons (pe_ix (r := rIxT K) ix_tup (pv 5) pe_int (fun _ _ => rfl)) pa_nil))))) pa_nil)))) pss_nil))) (pss_one (ps_ret (pe_callB (r := rSortTa K) cr_sortTa (by rfl) T.z_sorted (by decide +kernel) (pa_cons (pv 3) pa_nil)))))), ?_⟩
    refine at_start (ρ' := [some _, some _, some _, none, none, none]) rfl ?_
    walk_at "z0"
    walk_at "z"
    rename_i p H1 np e1 hp
    refine l_list vs (fun i σ H' => ∃ us v4 v5, σ = [some (.ref l), some (.int c), some (.int d), some (.ref p), v4, v5] ∧ Ex H H' ∧ H' p = some (.lst us) ∧ All2 (SpotAt K H') us (spotsF c d (fs.take i))) ⟨[], _, _, rfl, e1, hp, .nil⟩
      (fun i σ H' hi h => ?_) (fun i x σ H2 hi h => ?_) (fun σ H2 h => ?_)
    · obtain ⟨us, v4, v5, rfl, e2, _⟩ := h
      exact e2.sqL hl
    · obtain ⟨us, v4, v5, rfl, e2, hp2, h2⟩ := h
      obtain ⟨q, n, u, f, hfi, rfl, hq, a, zs, rfl, ha, hu⟩ := rfs_get hf hi
      replace hq := e2.sqT hq
      replace ha := e2.sqT ha
      have g1 := gf.good _ (List.mem_of_getElem? hfi)
      have hl2 : us.length ≤ 1000 := by
        rw [h2.len]
        have z := @spots_len c d (fs.take i)
        rw [List.length_take] at z
        omega
      walk_at "z"
      refine s_ixT ha (at0 _ _) ?_
      walk_at "z"
      refine ite_dec (fun h3 => ?_) (fun h3 => ?_)
      · obtain ⟨d', m, g, c', ho, rfl, _⟩ := gf_pass g1 h3
        have hu := fds5 hu
        subst hu
        walk_at "z"
        have no : ¬ (d' = d ∧ c' = c) → spotsF c d (fs.take (i + 1)) = spotsF c d (fs.take i) := fun h => by
          rw [spots_take hfi]
          unfold spotF
          dsimp only
          rw [if_neg (fun z => h z.2)]
          simp
        refine ite_dec (fun h4 => ?_) (fun h4 => ?_)
        · walk_at "z"
          refine ite_dec (fun h5 => ?_) (fun h5 => ?_)
          · walk_at "z"
            rename_i t H3 _ e3 ht
            refine s_app (e3 _ _ hp2) (szl (by omega)) fun H4 f4 hp4 => ?_
            refine ⟨_, _, _, rfl, (e2.trans e3).fr2 np f4, hp4, ?_⟩
            have es : spotsF c d (fs.take (i + 1)) = spotsF c d (fs.take i) ++ [⟨m, n, g, ho⟩] := by
              rw [spots_take hfi]
              unfold spotF
              dsimp only
              rw [if_pos ⟨rfl, h4, h5⟩]
              rfl
            rw [es]
            have tk := tk_lst (K := K) f4 (e3 _ _ hp2)
            exact (spotAt_tk (e3.tk.trans tk) h2).snoc ⟨t, rfl, tk _ _ (SqT.of ht)⟩
          · walk_at "z"
            rw [no (fun z => h5 z.2)]
            exact ⟨_, _, _, rfl, e2, hp2, h2⟩
        · walk_at "z"
          rw [no (fun z => h4 z.1)]
          exact ⟨_, _, _, rfl, e2, hp2, h2⟩
      · walk_at "z"
        rw [spots_take hfi, gf_arity5 g1 h3]
        simp only [Option.toList_none, List.append_nil]
        exact ⟨_, _, _, rfl, e2, hp2, h2⟩
    · obtain ⟨us, v4, v5, rfl, e2, hp2, h2⟩ := h
      rw [List.take_of_length_le (by rw [rfs_len hf]; exact Nat.le_refl _)] at h2
      walk_at "z"
      refine s_sortTa 4 (by decide) (SqL.of hp2) (h2.map_r Spot.l fun _ _ q => q) (fun x hx => by
        obtain ⟨y, _, rfl⟩ := List.mem_map.mp hx
        rfl) fun ys ls r H3 h3 h4 h5 nr e3 hr3 => ?_
      refine k r ys H3 (Ex.back e2 nr) (e2.trans e3) hr3 ?_
      have el : ls = (ordF c d fs).map Spot.l := lx_uniq (h3.trans ((ord_perm c d fs).map Spot.l).symm) h4 (List.pairwise_map.mpr (ord_sorted c d fs))
      rw [el] at h5
      exact all2_unmap (R := TIs K H3) (f := Spot.l) h5

theorem ex_fr2' {b : Addr} {H H1 H2 : Hp} (e : Ex H H1) (n : H b = none) (f : Fr b H1 H2) : Ex H H2 := e.fr2 n f
/-! folk and bargains of a day -/
def freeG (d : Int) (p : Int × Fct) : Option (Str × List Int) :=
  match p.2.xs with
  | [.i c, .i a, .i b] => if p.2.w = "folk" ∧ a ≤ d ∧ d ≤ b then some ("folk", [c]) else none
  | [.i g, .i c, .i a, .i b] => if p.2.w = "bargain" ∧ a ≤ d ∧ d ≤ b then some ("bargain", [g, c]) else none
  | _ => none
def freeL (d : Int) (fs : List (Int × Fct)) : List (Str × List Int) := fs.filterMap (freeG d)
theorem filterMap_take {α β : Type} {f : α → Option β} {l : List α} {i : Nat} {x : α} (e : l[i]? = some x) : (l.take (i + 1)).filterMap f = (l.take i).filterMap f ++ (f x).toList := by
  rw [List.take_succ, e, List.filterMap_append]
  rfl
def FreeAt (K : PySem.W.Frag) (H : Hp) (v : V) (x : Str × List Int) : Prop := ∃ a, v = .ref a ∧ SqT K H a (.str x.1 :: x.2.map V.int)
theorem FreeAt.tk {K : PySem.W.Frag} {H H' : Hp} (e : Tk K H H') {v : V} {x : Str × List Int} (h : FreeAt K H v x) : FreeAt K H' v x := by
  obtain ⟨a, rfl, h⟩ := h
  exact ⟨a, rfl, e _ _ h⟩
theorem freeAt_tk {K : PySem.W.Frag} {H H' : Hp} (e : Tk K H H') {vs : List V} {xs : List (Str × List Int)} (h : All2 (FreeAt K H) vs xs) : All2 (FreeAt K H') vs xs := h.mono fun _ _ q => q.tk e
theorem gf_free {f : Fct} (h : GF f) : (∃ c a b, f = ⟨"folk", [.i c, .i a, .i b]⟩) ∨ (∃ g c a b, f = ⟨"bargain", [.i g, .i c, .i a, .i b]⟩) ∨ (f.w ≠ "folk" ∧ f.w ≠ "bargain" ∧ ∀ (n d : Int), freeG d (n, f) = none) := by
  have no : ∀ {w : Str} {xs : List Arg}, w ≠ "folk" → w ≠ "bargain" → ∀ (n d : Int), freeG d (n, ⟨w, xs⟩) = none := fun {w xs} h1 h2 n d => by
    unfold freeG
    dsimp only
    split
    · exact if_neg fun z => h1 z.1
    · exact if_neg fun z => h2 z.1
    · rfl
  cases h with
  | folk => exact .inl ⟨_, _, _, rfl⟩
  | bargain => exact .inr (.inl ⟨_, _, _, _, rfl⟩)
  | _ => exact .inr (.inr ⟨by dsimp only; decide +kernel, by dsimp only; decide +kernel, no (by decide +kernel) (by decide +kernel)⟩)
def spFree (K : PySem.W.Frag) : Sp := fun vs H Q _ => ∃ (l : Addr) (d : Int) (fs : List (Int × Fct)), vs = [.ref l, .int d] ∧ RL K H l fs ∧ GFs fs ∧ fs.length ≤ 1000 ∧ ∀ p vs H', H p = none → Ex H H' → H' p = some (.lst vs) → All2 (FreeAt K H') vs (freeL d fs) → Q (.ref p) H'
theorem inV_two {w a b : Str} : inV (.str w) [.str a, .str b] = decide (w = a ∨ w = b) := by
  have e : ∀ x y : Str, eqV (.str x) (.str y) = decide (y = x) := fun x y => by
    by_cases h : y = x
    · subst h
      simp [eqV]
    · rw [decide_eq_false h]
      cases q : eqV (.str x) (.str y) with
      | false => rfl
      | true => exact absurd (eqV_str q).symm h
  unfold inV
  simp only [List.any_cons, List.any_nil, Bool.or_false, e]
  rw [Bool.decide_or]
theorem sc_p_free_on : FnScope ["facts", "day", "free", "_", "fact"] ["facts", "day"] (defScope s_p_free_on) :=
  ⟨rfl, rfl, rfl, by decide +kernel, rfl, by decide +kernel, by decide +kernel⟩
theorem ok_p_free_on (T : Tx P K mg w) : FnOk P w K mg base CX0 1 T.f_p_free_on T.d_p_free_on ["facts", "day"] (spFree K) := by
  refine T.F_p_free_on.ok sc_p_free_on (fun vs H Q E h => ?_) (fun cdv A outer s H vs Q E hr h => ?_)
  · obtain ⟨l, d, fs, rfl, _⟩ := h
    rfl
  · obtain ⟨l, d, fs, rfl, ⟨vs, hl, hf⟩, gf, hz, k⟩ := h
    refine ⟨_, (pss_cons (ps_set (i := 2) sc_p_free_on.nd rfl (Or.inl rfl) (pe_lst pa_nil)) (pss_cons (ps_for PassesOwn.never rfl (pi_list (pv 0)) (pg_tup (by rfl) (pgs_cons (pg_name (i := 3) sc_p_free_on.nd rfl (Or.inl rfl)) (pgs_cons (pg_name (i := 4) sc_p_free_on.nd rfl (Or.inl rfl)) pgs_nil))) (pss_one (ps_if (PW.pt (pw_and (pt_cmpR (r := rIn K false) op_in_seq (pe_ix (r := rIxT K) ix_tup (pv 4) pe_int (fun _ _ => rfl)) (pe_tup (pa_cons pe_str (pa_cons pe_str pa_nil))) (by rfl)) (pw_and1 (pt_chain op_le op_le (pe_ix (r := rIxT K) ix_tup (pv 4) (pe_un un_neg pe_int) (fun _ _ => rfl)) (pv 1) (pe_ix (r := rIxT K) ix_tup (pv 4) (pe_un un_neg pe_int) (fun _ _ => rfl)))))) (pss_one (ps_expr (pe_bm PySem.F.plainAttrs_list PySem.F.slot_list_append PySem.F.type_list_append mt_append (pv 2) (pa_cons (pe_slice (r := rSlT K) sl_tup (pv 4) po_none (po_some (pe_un un_neg pe_int))) pa_nil)))) pss_nil))) (pss_one (ps_ret (pv 2))))), ?_⟩
    refine at_start (ρ' := [some _, some _, none, none, none]) rfl ?_
    walk_at "z0"
    walk_at "z"
    rename_i p H1 np e1 hp
    refine l_list vs (fun i σ H' => ∃ us v3 v4, σ = [some (.ref l), some (.int d), some (.ref p), v3, v4] ∧ Ex H H' ∧ H' p = some (.lst us) ∧ All2 (FreeAt K H') us (freeL d (fs.take i))) ⟨[], _, _, rfl, e1, hp, .nil⟩
      (fun i σ H' hi h => ?_) (fun i x σ H2 hi h => ?_) (fun σ H2 h => ?_)
    · obtain ⟨us, v4, v5, rfl, e2, _⟩ := h
      exact e2.sqL hl
    · obtain ⟨us, v4, v5, rfl, e2, hp2, h2⟩ := h
      obtain ⟨q, n, u, f, hfi, rfl, hq, a, zs, rfl, ha, hu⟩ := rfs_get hf hi
      replace hq := e2.sqT hq
      replace ha := e2.sqT ha
      have g1 := gf.good _ (List.mem_of_getElem? hfi)
      have hl2 : us.length ≤ 1000 := by
        rw [h2.len]
        have z : (freeL d (fs.take i)).length ≤ _ := List.length_filterMap_le _ _
        rw [List.length_take] at z
        omega
      have nx : freeL d (fs.take (i + 1)) = freeL d (fs.take i) ++ (freeG d (n, f)).toList := filterMap_take hfi
      walk_at "z"
      refine s_ixT ha (at0 _ _) ?_
      walk_at "z"
      rename_i t H3 _ e3 ht
      refine s_rInSeq (.inr (SqT.of ht)) rfl rfl ?_
      rw [inV_two]
      have e23 := e2.trans e3
      replace hp2 := e3 _ _ hp2
      replace h2 := freeAt_tk e3.tk h2
      replace ha := e3.sqT ha
      rcases gf_free g1 with ⟨c, x, y, rfl⟩ | ⟨g, c, x, y, rfl⟩ | ⟨n1, n2, n3⟩
      · replace hu := fds3 hu
        obtain ⟨v, rfl, hv⟩ := hu
        cases hv
        walk_at "z"
        refine ite_dec (fun h3 => ?_) (fun h3 => ?_)
        · walk_at "z"
          refine ite_dec (fun h4 => ?_) (fun h4 => ?_)
          · walk_at "z"
            refine s_slT 4 [.str "folk", .int c] ha rfl (by decide) rfl ?_
            refine s_new fun r H4 _ e4 hr4 => ?_
            walk_at "z"
            refine s_app (e4 _ _ hp2) (szl (by omega)) fun H5 f5 hp5 => ?_
            refine ⟨_, _, _, rfl, (e23.trans e4).fr2 np f5, hp5, ?_⟩
            rw [nx]
            unfold freeG
            dsimp only
            rw [if_pos ⟨rfl, h3, h4⟩]
            have tk := tk_lst (K := K) f5 (e4 _ _ hp2)
            exact (freeAt_tk (e4.tk.trans tk) h2).snoc ⟨r, rfl, tk _ _ (SqT.of hr4)⟩
          · walk_at "z"
            refine ⟨_, _, _, rfl, e23, hp2, ?_⟩
            rw [nx]
            unfold freeG
            dsimp only
            rw [if_neg (fun z => h4 z.2.2), Option.toList_none, List.append_nil]
            exact h2
        · walk_at "z"
          refine ⟨_, _, _, rfl, e23, hp2, ?_⟩
          rw [nx]
          unfold freeG
          dsimp only
          rw [if_neg (fun z => h3 z.2.1), Option.toList_none, List.append_nil]
          exact h2
      · replace hu : zs = [.int g, .int c, .int x, .int y] := by
          repeat (first | (cases ‹FDs _ _ _ (_ :: _)›) | (cases ‹FD _ _ _ _›))
          cases ‹FDs _ _ _ []›
          rfl
        subst hu
        walk_at "z"
        refine ite_dec (fun h3 => ?_) (fun h3 => ?_)
        · walk_at "z"
          refine ite_dec (fun h4 => ?_) (fun h4 => ?_)
          · walk_at "z"
            refine s_slT 5 [.str "bargain", .int g, .int c] ha rfl (by decide) rfl ?_
            refine s_new fun r H4 _ e4 hr4 => ?_
            walk_at "z"
            refine s_app (e4 _ _ hp2) (szl (by omega)) fun H5 f5 hp5 => ?_
            refine ⟨_, _, _, rfl, (e23.trans e4).fr2 np f5, hp5, ?_⟩
            rw [nx]
            unfold freeG
            dsimp only
            rw [if_pos ⟨rfl, h3, h4⟩]
            have tk := tk_lst (K := K) f5 (e4 _ _ hp2)
            exact (freeAt_tk (e4.tk.trans tk) h2).snoc ⟨r, rfl, tk _ _ (SqT.of hr4)⟩
          · walk_at "z"
            refine ⟨_, _, _, rfl, e23, hp2, ?_⟩
            rw [nx]
            unfold freeG
            dsimp only
            rw [if_neg (fun z => h4 z.2.2), Option.toList_none, List.append_nil]
            exact h2
        · walk_at "z"
          refine ⟨_, _, _, rfl, e23, hp2, ?_⟩
          rw [nx]
          unfold freeG
          dsimp only
          rw [if_neg (fun z => h3 z.2.1), Option.toList_none, List.append_nil]
          exact h2
      · walk_at "z"
        refine ite_neg (fun z => z.elim n1 n2) ?_
        walk_at "z"
        refine ⟨_, _, _, rfl, e23, hp2, ?_⟩
        rw [nx, n3, Option.toList_none, List.append_nil]
        exact h2
    · obtain ⟨us, v4, v5, rfl, e2, hp2, h2⟩ := h
      rw [List.take_of_length_le (by rw [rfs_len hf]; exact Nat.le_refl _)] at h2
      walk_at "z"
      exact k p us H2 np e2 hp2 h2

/-! lost tickets -/
def minO (o : Option Int) (m : Int) : Option Int := some (match o with | none => m | some k => if k < m then k else m)
def lostM (fs : List (Int × Fct)) (n : Int) : Option Int := (fs.filterMap (lostF n)).foldl minO none
theorem lostM_take {fs : List (Int × Fct)} {i : Nat} {p : Int × Fct} (e : fs[i]? = some p) (n : Int) : lostM (fs.take (i + 1)) n = match lostF n p with | none => lostM (fs.take i) n | some m => minO (lostM (fs.take i) n) m := by
  unfold lostM
  rw [filterMap_take e, List.foldl_append]
  cases lostF n p <;> rfl
theorem minO_le : ∀ (l : List Int) (o : Option Int) (m : Int), ((l.foldl minO o).elim false fun k => decide (k ≤ m)) = ((o.elim false fun k => decide (k ≤ m)) || l.any fun k => decide (k ≤ m))
  | [], o, m => by simp
  | x :: l, o, m => by
    rw [List.foldl_cons, minO_le l, List.any_cons, ← Bool.or_assoc]
    congr 1
    cases o with
    | none => simp [minO]
    | some k =>
      show decide ((if k < x then k else x) ≤ m) = (decide (k ≤ m) || decide (x ≤ m))
      rw [← Bool.decide_or]
      refine decide_eq_decide.mpr ?_
      split <;> omega
theorem lostB_eq (fs : List (Int × Fct)) (n m : Int) : lostB fs n m = (lostM fs n).elim false fun k => decide (k ≤ m) := by
  unfold lostB lostM
  rw [minO_le]
  rfl
theorem gf_lost {f : Fct} (h : GF f) (e : f.w = "lost") : ∃ n m, f = ⟨"lost", [.i n, .i m]⟩ := by
  cases h with
  | lost => exact ⟨_, _, rfl⟩
  | _ =>
    dsimp only at e
    exact absurd e (by decide +kernel)
theorem lostF_no {f : Fct} (e : f.w ≠ "lost") (n j : Int) : lostF n (j, f) = none := by
  unfold lostF
  split
  · exact if_neg fun z => e z.1
  · rfl
def LostD (fs : List (Int × Fct)) (kvs : List (Key × V)) : Prop := ∀ n : Int, valV kvs (Sum.inl n) = (lostM fs n).map V.int
def spLost (K : PySem.W.Frag) : Sp := fun vs H Q _ => ∃ (l : Addr) (fs : List (Int × Fct)), vs = [.ref l] ∧ RL K H l fs ∧ GFs fs ∧ fs.length ≤ 1000 ∧ ∀ p kvs H', H p = none → Ex H H' → H' p = some (.dK kvs) → LostD fs kvs → Q (.ref p) H'
theorem sc_p_lost_minutes : FnScope ["facts", "minutes", "_", "fact", "number", "minute"] ["facts"] (defScope s_p_lost_minutes) :=
  ⟨rfl, rfl, rfl, by decide +kernel, rfl, by decide +kernel, by decide +kernel⟩
theorem ok_p_lost_minutes (T : Tx P K mg w) : FnOk P w K mg base CX0 1 T.f_p_lost_minutes T.d_p_lost_minutes ["facts"] (spLost K) := by
  refine T.F_p_lost_minutes.ok sc_p_lost_minutes (fun vs H Q E h => ?_) (fun cdv A outer s H vs Q E hr h => ?_)
  · obtain ⟨l, fs, rfl, _⟩ := h
    rfl
  · obtain ⟨l, fs, rfl, ⟨vs, hl, hf⟩, gf, hz, k⟩ := h
    refine ⟨_, (pss_cons (ps_set (i := 1) sc_p_lost_minutes.nd rfl (Or.inl rfl) pe_dnewK) (pss_cons (ps_for PassesOwn.never rfl (pi_list (pv 0)) (pg_tup (by rfl) (pgs_cons (pg_name (i := 2) sc_p_lost_minutes.nd rfl (Or.inl rfl)) (pgs_cons (pg_name (i := 3) sc_p_lost_minutes.nd rfl (Or.inl rfl)) pgs_nil))) (pss_one (ps_if (pt_cmpR op_eq (pe_ix (r := rIxT K) ix_tup (pv 3) pe_int (fun _ _ => rfl)) pe_str (nomark _)) (pss_cons (ps_par (i := 4) (j := 5) (by rfl) sc_p_lost_minutes.nd rfl rfl (by decide) rfl rfl (pa_cons (pe_ix (r := rIxT K) ix_tup (pv 3) pe_int (fun _ _ => rfl)) (pa_cons (pe_ix (r := rIxT K) ix_tup (pv 3) pe_int (fun _ _ => rfl)) pa_nil)) (by rfl)) (pss_one (ps_dput (hu_of hr) (pv 1) (pv 4) (pe_callB (cz_min2 rfl) (by rfl) T.z_min (by decide +kernel) (pa_cons (pv 5) (pa_cons (pe_dget2 (hu_of hr) (pv 1) (pv 4) (pv 5) (by constructor <;> rfl)) pa_nil))) rfl))) pss_nil))) (pss_one (ps_ret (pv 1))))), ?_⟩
    refine at_start (ρ' := [some _, none, none, none, none, none]) rfl ?_
    walk_at "z0"
    walk_at "z"
    refine s_dnew fun p H1 np e1 hp => ?_
    walk_at "z"
    refine l_list vs (fun i σ H' => ∃ kvs v2 v3 v4 v5, σ = [some (.ref l), some (.ref p), v2, v3, v4, v5] ∧ Ex H H' ∧ H' p = some (.dK kvs) ∧ LostD (fs.take i) kvs ∧ kvs.length ≤ i) ⟨[], _, _, _, _, rfl, e1, hp, fun n => rfl, Nat.le_refl _⟩
      (fun i σ H' hi h => ?_) (fun i x σ H2 hi h => ?_) (fun σ H2 h => ?_)
    · obtain ⟨us, _, _, v4, v5, rfl, e2, _⟩ := h
      exact e2.sqL hl
    · obtain ⟨kvs, v2, v3, v4, v5, rfl, e2, hp2, h2, hk⟩ := h
      obtain ⟨q, n, u, f, hfi, rfl, hq, a, zs, rfl, ha, hu⟩ := rfs_get hf hi
      replace hq := e2.sqT hq
      replace ha := e2.sqT ha
      have g1 := gf.good _ (List.mem_of_getElem? hfi)
      have hi' : i < 1000 := by have := (List.getElem?_eq_some_iff.mp hfi).1; omega
      walk_at "z"
      refine s_ixT ha (at0 _ _) ?_
      walk_at "z"
      refine ite_dec (fun h3 => ?_) (fun h3 => ?_)
      · obtain ⟨j, m, rfl⟩ := gf_lost g1 h3
        replace hu : zs = [.int j, .int m] := by
          repeat (first | (cases ‹FDs _ _ _ (_ :: _)›) | (cases ‹FD _ _ _ _›))
          cases ‹FDs _ _ _ []›
          rfl
        subst hu
        walk_at "z"
        refine s_tDPut ?_
        walk_at "z"
        refine s_tDGet2 ?_
        walk_at "z"
        refine s_isD hp2 ?_
        walk_at "z"
        refine s_dget2I hp2 ?_
        walk_at "z"
        have ej := h2 j
        have e0 : ∃ z : Int, (valV kvs (Sum.inl j)).getD (V.int m) = .int z ∧ minO (lostM (fs.take i) j) m = some (if z < m then z else m) := by
          rw [ej]
          cases lostM (fs.take i) j with
          | none => exact ⟨m, rfl, by unfold minO; simp⟩
          | some k => exact ⟨k, rfl, rfl⟩
        obtain ⟨z, ez, ez2⟩ := e0
        rw [ez]
        walk_at "z"
        refine s_dputI hp2 (by omega) fun H3 f3 hp3 => ?_
        refine ⟨_, _, _, _, _, rfl, e2.fr2 np f3, hp3, fun n' => ?_, by have := length_putK kvs (Sum.inl j) (V.int (if z < m then z else m)); omega⟩
        rw [valV_put, lostM_take hfi]
        unfold lostF
        dsimp only
        by_cases c : n' = j
        · subst c
          rw [if_pos rfl]
          simp only [and_self, if_true]
          rw [ez2]
          rfl
        · rw [if_neg (fun y => c (by injection y)), if_neg (fun y => c y.2.symm)]
          exact h2 n'
      · walk_at "z"
        refine ⟨_, _, _, _, _, rfl, e2, hp2, fun n' => ?_, by omega⟩
        rw [lostM_take hfi, lostF_no h3]
        exact h2 n'
    · obtain ⟨kvs, v2, v3, v4, v5, rfl, e2, hp2, h2, hk⟩ := h
      rw [List.take_of_length_le (by rw [rfs_len hf]; exact Nat.le_refl _)] at h2
      walk_at "z"
      exact k p kvs H2 np e2 hp2 h2

/-! a carriage on a day, as it stands -/
def cdFs (l : Addr) (c d : Int) (lo lf ld lb : Addr) : List (Str × V) := [("all_facts", .ref l), ("carriage", .int c), ("day", .int d), ("order", .ref lo), ("free", .ref lf), ("lost", .ref ld), ("boards", .ref lb)]
structure CD (K : PySem.W.Frag) (C : Addr) (H : Hp) (o : Addr) (fs : List (Int × Fct)) (c d : Int) : Prop where
  ex : ∃ dx l lo lf ld lb vo vf kl kb, H o = some (.ins C dx (cdFs l c d lo lf ld lb)) ∧ RL K H l fs ∧ (H lo = some (.lst vo) ∧ All2 (SpotAt K H) vo (ordF c d fs)) ∧ (H lf = some (.lst vf) ∧ All2 (FreeAt K H) vf (freeL d fs)) ∧
    (H ld = some (.dK kl) ∧ LostD fs kl) ∧ (H lb = some (.dK kb) ∧ ∀ s ∈ ordF c d fs, ∃ t ns, valV kb (Sum.inl s.g) = some (.ref t) ∧ SqT K H t (ns.map V.int) ∧ Brd s.g d fs ns)
theorem CD.mono {C : Addr} {H H' : Hp} {o : Addr} {fs : List (Int × Fct)} {c d : Int} (h : CD K C H o fs c d) (e : Ex H H') : CD K C H' o fs c d := by
  obtain ⟨dx, l, lo, lf, ld, lb, vo, vf, kl, kb, h1, h2, ⟨h3, h4⟩, ⟨h5, h6⟩, ⟨h7, h8⟩, h9, h10⟩ := h.ex
  exact ⟨dx, l, lo, lf, ld, lb, vo, vf, kl, kb, e _ _ h1, rl_ex e h2, ⟨e _ _ h3, spotAt_tk e.tk h4⟩, ⟨e _ _ h5, freeAt_tk e.tk h6⟩, ⟨e _ _ h7, h8⟩, e _ _ h9, fun s hs => by
    obtain ⟨t, ns, a, b, q⟩ := h10 s hs
    exact ⟨t, ns, a, e.sqT b, q⟩⟩
theorem spot_gf {c d : Int} {fs : List (Int × Fct)} (gf : GFs fs) {s : Spot} (h : s ∈ spotsF c d fs) : ∃ f, (s.n, f) ∈ fs ∧ f = ⟨"pass", [.i d, .i s.m, .i s.g, .i c, .i s.h]⟩ ∧ R 0 7 s.g ∧ R 1 8 s.h ∧ R 0 1439 s.m := by
  obtain ⟨⟨n, f⟩, hm, e⟩ := List.mem_filterMap.mp h
  have g := gf.good _ hm
  by_cases hw : f.w = "pass"
  · obtain ⟨d', m, g', c', ho, rfl, r1, r2, r3, r4, r5⟩ := gf_pass g hw
    unfold spotF at e
    dsimp only at e
    split at e
    · rename_i q
      obtain ⟨_, rfl, rfl⟩ := q
      cases e
      exact ⟨_, hm, rfl, r3, r5, r2⟩
    · cases e
  · rw [gf_arity5 g hw] at e
    cases e
theorem ord_gf {c d : Int} {fs : List (Int × Fct)} (gf : GFs fs) {s : Spot} (h : s ∈ ordF c d fs) : ∃ f, (s.n, f) ∈ fs ∧ f = ⟨"pass", [.i d, .i s.m, .i s.g, .i c, .i s.h]⟩ ∧ R 0 7 s.g ∧ R 1 8 s.h ∧ R 0 1439 s.m := spot_gf gf ((ord_perm c d fs).mem_iff.mp h)
theorem ord_len {c d : Int} {fs : List (Int × Fct)} : (ordF c d fs).length ≤ fs.length := by
  rw [(ord_perm c d fs).length_eq]
  exact spots_len
def spCdInit (K : PySem.W.Frag) (C : Addr) : Sp := fun vs H Q _ => ∃ (o l dx : Addr) (c d : Int) (fs : List (Int × Fct)), vs = [.ref o, .ref l, .int c, .int d] ∧ H o = some (.ins C dx []) ∧ RL K H l fs ∧ GFs fs ∧ fs.length ≤ 1000 ∧
  ∀ H', Fr o H H' → CD K C H' o fs c d → Q .non H'
theorem fr_new {b : Addr} {H H1 H2 : Hp} (f : Fr b H H1) (e : Ex H1 H2) : Fr b H H2 := fun a o n h => e _ _ (f a o n h)
/-- the set of the gates met so far -/
def GSet (os : List Spot) (S : Int → Bool) : Prop := ∀ x, S x = true ↔ ∃ s ∈ os, s.g = x
theorem nodup_len : ∀ (n : Nat) (l : List Int), l.Nodup → (∀ x ∈ l, 0 ≤ x ∧ x < n) → l.length ≤ n
  | 0, l, _, h => by
    cases l with
    | nil => exact Nat.le_refl _
    | cons x l => have := h x List.mem_cons_self; omega
  | n + 1, l, nd, h => by
    by_cases c : (n : Int) ∈ l
    · have e := List.length_erase_of_mem c
      have ih := nodup_len n (l.erase (n : Int)) (nd.erase _) fun x hx => by
        have h1 := (nd.mem_erase_iff).mp hx
        have h2 := h x h1.2
        have h3 := h1.1
        omega
      have := List.length_pos_of_mem c
      omega
    · have ih := nodup_len n l nd fun x hx => by
        have h2 := h x hx
        have h3 : x ≠ n := fun z => c (by rw [← z]; exact hx)
        omega
      omega
theorem sqL_frI {b a C dx : Addr} {g : List (Str × V)} {H H' : Hp} {xs : List V} (e : Fr b H H') (hb : H b = some (.ins C dx g)) (h : SqL K H a xs) : SqL K H' a xs := by
  rcases h with (h | ⟨o, h⟩) | h
  · exact .inl (.inl (e _ _ (ne_of h hb (fun z => by cases z)) h))
  · exact .inl (.inr ⟨o, e _ _ (ne_of h hb (fun z => by cases z)) h⟩)
  · exact .inr h
theorem rl_frI {b l C dx : Addr} {g : List (Str × V)} {H H' : Hp} {fs : List (Int × Fct)} (e : Fr b H H') (hb : H b = some (.ins C dx g)) (h : RL K H l fs) : RL K H' l fs := by
  obtain ⟨vs, h1, h2⟩ := h
  exact ⟨vs, sqL_frI e hb h1, rfs_map (fun z => tk_ins e hb _ _ z) h2⟩
theorem ne_li {a b C dx : Addr} {g : List (Str × V)} {xs : List V} {H : Hp} (h : H a = some (.lst xs)) (hb : H b = some (.ins C dx g)) : a ≠ b := ne_of h hb (fun z => by cases z)
theorem ne_di {a b C dx : Addr} {g : List (Str × V)} {xs : List (Key × V)} {H : Hp} (h : H a = some (.dK xs)) (hb : H b = some (.ins C dx g)) : a ≠ b := ne_of h hb (fun z => by cases z)
theorem sc_c_CarriageDay_init : FnScope ["self", "facts", "carriage", "day", "gates", "passing", "gate"] ["self", "facts", "carriage", "day"] (defScope s_c_CarriageDay_init) :=
  ⟨rfl, rfl, rfl, by decide +kernel, rfl, by decide +kernel, by decide +kernel⟩
theorem ok_c_CarriageDay_init (T : Tx P K mg w) : FnOk P w K mg base CX0 3 T.f_c_CarriageDay_init T.d_c_CarriageDay_init ["self", "facts", "carriage", "day"] (spCdInit K T.C_CarriageDay) := by
  refine T.F_c_CarriageDay_init.ok sc_c_CarriageDay_init (fun vs H Q E h => ?_) (fun cdv A outer s H vs Q E hr h => ?_)
  · obtain ⟨o, l, dx, c, d, fs, rfl, _⟩ := h
    rfl
  · obtain ⟨o, l, dx, c, d, fs, rfl, ho, ⟨vs, hl, hf⟩, gf, hz, k⟩ := h
    refine ⟨_, (pss_cons (ps_fld (pv 0) (pv 1) rfl) (pss_cons (ps_fld (pv 0) (pv 2) rfl) (pss_cons (ps_fld (pv 0) (pv 3) rfl) (pss_cons (ps_fld (pv 0) (pe_call (ok_p_passings_on T) (hr.mono (by decide)) rfl T.g_p_passings_on T.F_p_passings_on.kp T.b_p_passings_on .nil pass0 (pa_cons (pv 1) (pa_cons (pv 2) (pa_cons (pv 3) pa_nil)))) rfl) (pss_cons (ps_fld (pv 0) (pe_call (ok_p_free_on T) (hr.mono (by decide)) rfl T.g_p_free_on T.F_p_free_on.kp T.b_p_free_on .nil pass0 (pa_cons (pv 1) (pa_cons (pv 3) pa_nil))) rfl) (pss_cons (ps_fld (pv 0) (pe_call (ok_p_lost_minutes T) (hr.mono (by decide)) rfl T.g_p_lost_minutes T.F_p_lost_minutes.kp T.b_p_lost_minutes .nil pass0 (pa_cons (pv 1) pa_nil)) rfl) (pss_cons (ps_set (i := 4) sc_c_CarriageDay_init.nd rfl (Or.inl rfl) (pe_callB (cr_sortedSet rfl) (by rfl) T.z_sorted (by decide +kernel) (pa_cons (pe_sc2 (own := [("passing", 5)]) kd_ints trivial (by rfl) sc_c_CarriageDay_init.nd (pi_list (pe_fld (pv 0) rfl)) (blkOk_by (own := [("passing", 5)]) (N := ["self", "facts", "carriage", "day", "gates", "passing", "gate"]) (sc := defScope s_c_CarriageDay_init) (by decide +kernel)) (fun _ _ _ _ _ => (pg_name (i := 5) sc_c_CarriageDay_init.nd rfl (Or.inl rfl))) (fun _ _ _ _ _ => pts_nil) (fun _ _ _ _ _ => (pe_ix (r := rIxT K) ix_tup (pv 5) pe_int (fun _ _ => rfl)))) pa_nil))) (pss_one (ps_fld (pv 0) (pe_dc (own := [("gate", 6)]) (by rfl) sc_c_CarriageDay_init.nd (pi_list (pv 4)) (blkOk_by (own := [("gate", 6)]) (N := ["self", "facts", "carriage", "day", "gates", "passing", "gate"]) (sc := defScope s_c_CarriageDay_init) (by decide +kernel)) (fun _ _ _ _ _ => (pg_name (i := 6) sc_c_CarriageDay_init.nd rfl (Or.inl rfl))) (fun _ _ _ _ _ => pts_nil) (fun _ _ _ _ _ => (pv 6)) (fun _ _ _ _ _ => (pe_call (ok_p_board_on T) (hr.mono (by decide)) rfl T.g_p_board_on T.F_p_board_on.kp T.b_p_board_on .nil pass0 (pa_cons (pv 1) (pa_cons (pv 6) (pa_cons (pv 3) pa_nil)))))) rfl))))))))), ?_⟩
    refine at_start (ρ' := [some _, some _, some _, some _, none, none, none]) rfl ?_
    walk_at "z0"
    walk_at "z"
    refine s_sFldP ?_
    walk_at "z"
    refine s_fldPut [("all_facts", .ref l)] ho T.cls_CarriageDay T.na_CarriageDay_all_facts (by simp [cdFs]) rfl fun H1 f1 ho1 => ?_
    walk_at "z"
    refine s_sFldP ?_
    walk_at "z"
    refine s_fldPut [("all_facts", .ref l), ("carriage", .int c)] ho1 T.cls_CarriageDay T.na_CarriageDay_carriage (by simp [cdFs]) rfl fun H2 f2 ho2 => ?_
    walk_at "z"
    refine s_sFldP ?_
    walk_at "z"
    refine s_fldPut [("all_facts", .ref l), ("carriage", .int c), ("day", .int d)] ho2 T.cls_CarriageDay T.na_CarriageDay_day (by simp [cdFs]) rfl fun H3 f3 ho3 => ?_
    have rl3 := rl_frI f3 ho2 (rl_frI f2 ho1 (rl_frI f1 ho ⟨vs, hl, hf⟩))
    have f03 : Fr o H H3 := (f1.trans f2).trans f3
    clear f1 f2 f3 ho1 ho2 ho hl hf
    walk_at "z"
    refine s_sFldP ?_
    walk_at "z"
    refine ⟨l, c, d, fs, rfl, rl3, gf, hz, fun lo vo H4 n4 e4 hlo hvo => ?_⟩
    walk_at "z"
    have ho4 := e4 _ _ ho3
    refine s_fldPut [("all_facts", .ref l), ("carriage", .int c), ("day", .int d), ("order", .ref lo)] ho4 T.cls_CarriageDay T.na_CarriageDay_order (by simp [cdFs]) rfl fun H5 f5 ho5 => ?_
    have rl5 := rl_frI f5 ho4 (rl_ex e4 rl3)
    have f05 : Fr o H H5 := (fr_new f03 e4).trans f5
    have hvo5 := spotAt_tk (tk_ins f5 ho4) hvo
    have hlo5 := f5 _ _ (ne_li hlo ho4) hlo
    clear rl3 f03 f5 hvo hlo n4 e4
    walk_at "z"
    refine s_sFldP ?_
    walk_at "z"
    refine ⟨l, d, fs, rfl, rl5, gf, hz, fun lf vf H6 n6 e6 hlf hvf => ?_⟩
    walk_at "z"
    have ho6 := e6 _ _ ho5
    refine s_fldPut [("all_facts", .ref l), ("carriage", .int c), ("day", .int d), ("order", .ref lo), ("free", .ref lf)] ho6 T.cls_CarriageDay T.na_CarriageDay_free (by simp [cdFs]) rfl fun H7 f7 ho7 => ?_
    have rl7 := rl_frI f7 ho6 (rl_ex e6 rl5)
    have f07 : Fr o H H7 := (fr_new f05 e6).trans f7
    have tk7 : Tk K H6 H7 := tk_ins f7 ho6
    have hvo7 := spotAt_tk (e6.tk.trans tk7) hvo5
    have hlo7 := f7 _ _ (ne_li (e6 _ _ hlo5) ho6) (e6 _ _ hlo5)
    have hvf7 := freeAt_tk tk7 hvf
    have hlf7 := f7 _ _ (ne_li hlf ho6) hlf
    clear rl5 f05 f7 hvo5 hlo5 hvf hlf n6 e6 tk7
    walk_at "z"
    refine s_sFldP ?_
    walk_at "z"
    refine ⟨l, fs, rfl, rl7, gf, hz, fun ld kl H8 n8 e8 hld hkl => ?_⟩
    walk_at "z"
    have ho8 := e8 _ _ ho7
    refine s_fldPut [("all_facts", .ref l), ("carriage", .int c), ("day", .int d), ("order", .ref lo), ("free", .ref lf), ("lost", .ref ld)] ho8 T.cls_CarriageDay T.na_CarriageDay_lost (by simp [cdFs]) rfl fun H9 f9 ho9 => ?_
    have rl9 := rl_frI f9 ho8 (rl_ex e8 rl7)
    have f09 : Fr o H H9 := (fr_new f07 e8).trans f9
    have tk9 : Tk K H8 H9 := tk_ins f9 ho8
    have hvo9 := spotAt_tk (e8.tk.trans tk9) hvo7
    have hlo9 := f9 _ _ (ne_li (e8 _ _ hlo7) ho8) (e8 _ _ hlo7)
    have hvf9 := freeAt_tk (e8.tk.trans tk9) hvf7
    have hlf9 := f9 _ _ (ne_li (e8 _ _ hlf7) ho8) (e8 _ _ hlf7)
    have hld9 := f9 _ _ (ne_di hld ho8) hld
    clear rl7 f07 f9 hvo7 hlo7 hvf7 hlf7 hld n8 e8 tk9
    walk_at "z"
    refine s_sc ?_
    walk_at "z"
    refine s_fldGet ho9 T.cls_CarriageDay T.na_CarriageDay_order rfl ?_
    refine sc_list vo (SqL.of hlo9) (fun D i H' => H9 D = none ∧ Ex H9 H' ∧ ∃ (S : Int → Bool) (m : Nat) (G : List Int), H' D = some (SetO w D S m) ∧ GSet ((ordF c d fs).take i) S ∧ (∀ x, S x = true ↔ x ∈ G) ∧ G.Nodup ∧ G.length = m)
      (fun D H' n e h => ⟨n, e, _, 0, [], h, fun x => by simp, fun x => by simp, List.nodup_nil, rfl⟩) (fun D i H' h => SqL.of (h.2.1 _ _ hlo9)) (fun D i x H10 hx h => ?_) (fun D H10 h => ?_)
    · obtain ⟨nD, e10, S, m, G, hD, hG, hS, nd, hm⟩ := h
      obtain ⟨s1, hs1, hx1⟩ := hvo9.get hx
      obtain ⟨t, rfl, ht⟩ := hx1
      have hb : G.length ≤ 8 := nodup_len 8 G nd fun x hx => by
        obtain ⟨s2, m2, rfl⟩ := (hG x).mp ((hS x).mpr hx)
        obtain ⟨_, _, _, r1, _⟩ := ord_gf gf (List.mem_of_mem_take m2)
        exact ⟨r1.1, by have := r1.2; omega⟩
      walk_at "z"
      refine ⟨rfl, ?_⟩
      walk_at "z"
      refine s_adI hD (by unfold scanBound; omega) fun H11 f11 hD11 => ?_
      refine ⟨nD, e10.fr2 nD f11, _, _, if S s1.g = true then G else s1.g :: G, hD11, fun x => ?_, fun x => ?_, ?_, ?_⟩
      · rw [List.take_succ, hs1, Bool.or_eq_true, decide_eq_true_eq, hG x]
        simp only [Option.toList_some, List.mem_append, List.mem_singleton]
        constructor
        · rintro (⟨s2, m2, e⟩ | e)
          · exact ⟨s2, .inl m2, e⟩
          · exact ⟨s1, .inr rfl, e.symm⟩
        · rintro ⟨s2, m2 | rfl, e⟩
          · exact .inl ⟨s2, m2, e⟩
          · exact .inr e.symm
      · rw [Bool.or_eq_true, decide_eq_true_eq, hS x]
        by_cases c1 : S s1.g = true
        · rw [if_pos c1]
          exact ⟨fun z => z.elim id fun e => by rw [e]; exact (hS _).mp c1, .inl⟩
        · rw [if_neg c1, List.mem_cons]
          exact Or.comm
      · by_cases c1 : S s1.g = true
        · rw [if_pos c1]
          exact nd
        · rw [if_neg c1]
          exact List.nodup_cons.mpr ⟨fun z => c1 ((hS _).mpr z), nd⟩
      · by_cases c1 : S s1.g = true
        · rw [if_pos c1, if_pos c1]
          exact hm
        · rw [if_neg c1, if_neg c1, List.length_cons, hm]
    · obtain ⟨nD, e10, S, m, G, hD, hG, hS, nd, hm⟩ := h
      rw [List.take_of_length_le (by rw [hvo9.len]; exact Nat.le_refl _)] at hG
      have hb : G.length ≤ 8 := nodup_len 8 G nd fun x hx => by
        obtain ⟨s2, m2, rfl⟩ := (hG x).mp ((hS x).mpr hx)
        obtain ⟨_, _, _, r1, _⟩ := ord_gf gf m2
        exact ⟨r1.1, by have := r1.2; omega⟩
      walk_at "z"
      refine s_sortedSet hD (by omega) fun ns p2 H11 hns hmem hlen n11 e11 hp2 => ?_
      have e9 : Ex H9 H11 := e10.trans e11
      walk_at "z"
      refine s_sFldP ?_
      walk_at "z"
      refine s_dc ?_
      walk_at "z"
      refine dc_list (ns.map V.int) (SqL.of hp2) (fun D i H' => H11 D = none ∧ Ex H11 H' ∧ ∃ kvs, H' D = some (.dK kvs) ∧ kvs.length ≤ i ∧ ∀ j g, j < i → ns[j]? = some g → ∃ t bs, valV kvs (Sum.inl g) = some (.ref t) ∧ SqT K H' t (bs.map V.int) ∧ Brd g d fs bs)
        (fun D H' n e h => ⟨n, e, [], h, Nat.le_refl _, fun j g hj => by omega⟩) (fun D i H' h => SqL.of (h.2.1 _ _ hp2)) (fun D i x H12 hx h => ?_) (fun D H12 h => ?_)
      · obtain ⟨nD2, e12, kvs, hD2, hl2, hb2⟩ := h
        rw [List.getElem?_map] at hx
        obtain ⟨g, hg, rfl⟩ := Option.map_eq_some_iff.mp hx
        have hi : i < ns.length := (List.getElem?_eq_some_iff.mp hg).1
        obtain ⟨s2, m2, rfl⟩ := (hG g).mp ((hmem g).mp (List.mem_of_getElem? hg))
        obtain ⟨_, _, _, r1, _⟩ := ord_gf gf m2
        walk_at "z"
        refine ⟨rfl, ?_⟩
        walk_at "z"
        refine ⟨l, _, d, fs, rfl, rl_ex (e9.trans e12) rl9, gf, r1, fun t bs H13 e13 hbs ht => ?_⟩
        replace ht : H13 t = some (.tup (bs.map V.int)) := ht
        refine s_dcPut (e13 _ _ hD2) (by omega) fun H14 f14 hD14 => ?_
        refine ⟨nD2, (e12.trans e13).fr2 nD2 f14, _, hD14, by have := length_putK kvs (Sum.inl s2.g) (V.ref t); omega, fun j g' hj hg' => ?_⟩
        rw [valV_put]
        by_cases c1 : g' = s2.g
        · subst c1
          rw [if_pos rfl]
          exact ⟨t, bs, rfl, tk_dK f14 (e13 _ _ hD2) _ _ (SqT.of ht), hbs⟩
        · rw [if_neg (fun z => c1 (by injection z))]
          have hj2 : j < i := by
            rcases Nat.lt_succ_iff_lt_or_eq.mp hj with h1 | h1
            · exact h1
            · subst h1
              rw [hg] at hg'
              exact absurd (Option.some.inj hg').symm c1
          obtain ⟨t', bs', v1, v2, v3⟩ := hb2 j g' hj2 hg'
          exact ⟨t', bs', v1, tk_dK f14 (e13 _ _ hD2) _ _ (e13.sqT v2), v3⟩
      · obtain ⟨nD2, e12, kvs, hD2, hl2, hb2⟩ := h
        rw [List.length_map] at hb2
        have e912 := e9.trans e12
        have ho12 := e912 _ _ ho9
        walk_at "z"
        refine s_fldPut (cdFs l c d lo lf ld D) ho12 T.cls_CarriageDay T.na_CarriageDay_boards (by simp [cdFs]) rfl fun H13 f13 ho13 => ?_
        have tk13 : Tk K H12 H13 := tk_ins f13 ho12
        have tk : Tk K H9 H13 := e912.tk.trans tk13
        refine k H13 ((fr_new f09 e912).trans f13) ⟨dx, l, lo, lf, ld, D, vo, vf, kl, kvs, ho13, rl_frI f13 ho12 (rl_ex e912 rl9), ⟨f13 _ _ (ne_li (e912 _ _ hlo9) ho12) (e912 _ _ hlo9), spotAt_tk tk hvo9⟩, ⟨f13 _ _ (ne_li (e912 _ _ hlf9) ho12) (e912 _ _ hlf9), freeAt_tk tk hvf9⟩, ⟨f13 _ _ (ne_di (e912 _ _ hld9) ho12) (e912 _ _ hld9), hkl⟩, f13 _ _ (ne_di hD2 ho12) hD2, fun s hs => ?_⟩
        have hm1 : s.g ∈ ns := (hmem _).mpr ((hG _).mpr ⟨s, hs, rfl⟩)
        obtain ⟨j, hj⟩ := List.getElem?_of_mem hm1
        obtain ⟨t, bs, v1, v2, v3⟩ := hb2 j s.g (List.getElem?_eq_some_iff.mp hj).1 hj
        exact ⟨t, bs, v1, tk13 _ _ v2, v3⟩

def markV (w : Str) : V := if w = "" then .non else .str w
theorem inBrd_eq {fs : List (Int × Fct)} {d g x : Int} {ns : List Int} (gf : GFs fs) (h : Brd g d fs ns) : inBrd fs d g x = decide (x ∈ ns) := by
  obtain ⟨gs, eg, _, _⟩ := hold_board (g := g) (d := d) gf
  unfold inBrd
  rw [eg]
  dsimp only
  rw [Bool.eq_iff_iff, Bool.or_eq_true, beq_iff_eq, decide_eq_true_iff, decide_eq_true_iff, h.2 x, eg]
  exact ⟨fun z => z.imp id fun z => ⟨gs, rfl, z⟩, fun z => z.imp id fun ⟨gs', e, z⟩ => by
    injection e with e
    rw [e]
    exact z⟩
def spHind (K : PySem.W.Frag) (C : Addr) : Sp := fun vs H Q _ => ∃ (o : Addr) (tv pv : V) (fs : List (Int × Fct)) (c d : Int) (t s : Spot), vs = [.ref o, tv, pv] ∧ CD K C H o fs c d ∧ GFs fs ∧ t ∈ ordF c d fs ∧ SpotAt K H tv t ∧ SpotAt K H pv s ∧ Q (markV (barF fs d t s)) H
theorem sc_c_CarriageDay_hindrance : FnScope ["self", "ticket", "passing", "_", "number", "bought_at", "most_horses", "minute", "gate", "horses"] ["self", "ticket", "passing"] (defScope s_c_CarriageDay_hindrance) :=
  ⟨rfl, rfl, rfl, by decide +kernel, rfl, by decide +kernel, by decide +kernel⟩
theorem ok_c_CarriageDay_hindrance (T : Tx P K mg w) : FnOk P w K mg base CX0 1 T.f_c_CarriageDay_hindrance T.d_c_CarriageDay_hindrance ["self", "ticket", "passing"] (spHind K T.C_CarriageDay) := by
  refine T.F_c_CarriageDay_hindrance.ok sc_c_CarriageDay_hindrance (fun vs H Q E h => ?_) (fun cdv A outer s H vs Q E hr h => ?_)
  · obtain ⟨o, tv, pv, fs, c, d, t, s, rfl, _⟩ := h
    rfl
  · obtain ⟨o, tv, pv, fs, c, d, t, p, rfl, hcd, gf, ht, ⟨ta, rfl, hta⟩, ⟨pa, rfl, hpa⟩, k⟩ := h
    obtain ⟨dx, l, lo, lf, ld, lb, vo, vf, kl, kb, ho, rl, _, _, ⟨hld, hkl⟩, hlb, hkb⟩ := hcd.ex
    obtain ⟨bt, ns, hb1, hb2, hb3⟩ := hkb t ht
    replace hta : SqT K H ta [.int t.m, .int t.n, .int t.g, .int t.h] := hta
    replace hpa : SqT K H pa [.int p.m, .int p.n, .int p.g, .int p.h] := hpa
    have ei := fun x => inBrd_eq (x := x) gf hb3
    have el := lostB_eq fs t.n p.m
    unfold barF at k
    refine ⟨_, (pss_cons (ps_asg (pv 1) (pg_tup (by rfl) (pgs_cons (pg_name (i := 3) sc_c_CarriageDay_hindrance.nd rfl (Or.inl rfl)) (pgs_cons (pg_name (i := 4) sc_c_CarriageDay_hindrance.nd rfl (Or.inl rfl)) (pgs_cons (pg_name (i := 5) sc_c_CarriageDay_hindrance.nd rfl (Or.inl rfl)) (pgs_cons (pg_name (i := 6) sc_c_CarriageDay_hindrance.nd rfl (Or.inl rfl)) pgs_nil)))))) (pss_cons (ps_asg (pv 2) (pg_tup (by rfl) (pgs_cons (pg_name (i := 7) sc_c_CarriageDay_hindrance.nd rfl (Or.inl rfl)) (pgs_cons (pg_name (i := 3) sc_c_CarriageDay_hindrance.nd rfl (Or.inl rfl)) (pgs_cons (pg_name (i := 8) sc_c_CarriageDay_hindrance.nd rfl (Or.inl rfl)) (pgs_cons (pg_name (i := 9) sc_c_CarriageDay_hindrance.nd rfl (Or.inl rfl)) pgs_nil)))))) (pss_cons (ps_if (pt_cmpR (r := rIn K true) op_notIn_seq (pv 8) (pe_dget (hu_of hr) (pe_fld (pv 0) rfl) (pv 5) (fun _ _ => rfl)) (by rfl)) (pss_one (ps_ret pe_str)) pss_nil) (pss_cons (ps_if (pt_cmpR op_lt (pv 6) (pv 9) (nomark _)) (pss_one (ps_ret pe_str)) pss_nil) (pss_cons (ps_if (PW.pt (pw_and (pt_cmp (pc_din (hu_of hr) (pv 4) (pe_fld (pv 0) rfl))) (pw_and1 (pt_cmpR op_le (pe_dget (hu_of hr) (pe_fld (pv 0) rfl) (pv 4) (fun _ _ => rfl)) (pv 7) (nomark _))))) (pss_one (ps_ret pe_str)) pss_nil) (pss_one (ps_ret pe_non))))))), ?_⟩
    refine at_start (ρ' := [some _, some _, some _, none, none, none, none, none, none, none]) rfl ?_
    walk_at "z0"
    walk_at "z"
    refine s_tDGet ?_
    walk_at "z"
    refine s_fldGet ho T.cls_CarriageDay T.na_CarriageDay_boards rfl ?_
    walk_at "z"
    refine s_dgetI hlb hb1 ?_
    walk_at "z"
    refine s_rNotInSeq (.inr hb2) rfl (flat_ints ns) ?_
    rw [inV_ints]
    walk_at "z"
    rw [ei p.g] at k
    refine ite_ndec (fun h1 => ?_) (fun h1 => ?_)
    · walk_at "z"
      rw [decide_eq_false h1, if_pos rfl] at k
      exact k
    · rw [decide_eq_true h1, if_neg (by decide)] at k
      walk_at "z"
      refine ite_dec (fun h2 => ?_) (fun h2 => ?_)
      · walk_at "z"
        rw [if_pos h2] at k
        exact k
      · rw [if_neg h2] at k
        walk_at "z"
        refine s_tDIn ?_
        walk_at "z"
        refine s_fldGet ho T.cls_CarriageDay T.na_CarriageDay_lost rfl ?_
        refine s_dinI hld ?_
        have e1 := hkl t.n
        rw [e1]
        cases em : lostM fs t.n with
        | none =>
          rw [em] at el
          rw [el] at k
          walk_at "z"
          exact k
        | some m =>
          rw [em] at e1 el
          rw [el] at k
          walk_at "z"
          refine s_tDGet ?_
          walk_at "z"
          refine s_fldGet ho T.cls_CarriageDay T.na_CarriageDay_lost rfl ?_
          walk_at "z"
          refine s_dgetI hld e1 ?_
          walk_at "z"
          refine ite_dec (fun h3 => ?_) (fun h3 => ?_)
          · walk_at "z"
            rw [show ((some m).elim false fun k => decide (k ≤ p.m)) = true from decide_eq_true h3, if_pos rfl] at k
            exact k
          · walk_at "z"
            rw [show ((some m).elim false fun k => decide (k ≤ p.m)) = false from decide_eq_false h3, if_neg (by decide)] at k
            exact k

/-! the row of a passing -/
def encS (x : Str × List Int) : PyData := .tuple (.str x.1 :: x.2.map PyData.int)
theorem eqv_intl : ∀ (a b : List Int), PyData.eqvAll (a.map PyData.int) (b.map PyData.int) = decide (a = b)
  | [], [] => rfl
  | [], _ :: _ => rfl
  | _ :: _, [] => rfl
  | x :: a, y :: b => by
    rw [List.map_cons, List.map_cons]
    unfold PyData.eqvAll PyData.eqv
    rw [eqv_intl a b]
    by_cases h : x = y
    · subst h
      simp
    · simp [h]
theorem eqv_encS (x y : Str × List Int) : PyData.eqv (encS x) (encS y) = decide (x = y) := by
  obtain ⟨a, k⟩ := x
  obtain ⟨b, l⟩ := y
  unfold encS PyData.eqv PyData.eqvAll
  dsimp only
  rw [eqv_intl]
  unfold PyData.eqv
  by_cases h1 : a = b
  · subst h1
    by_cases h2 : k = l
    · subst h2; simp
    · simp [h2]
  · simp [h1]
theorem lay_intl : ∀ l : List Int, PyData.canLayAll0 (l.map PyData.int) = true ∧ PyData.depthAll (l.map PyData.int) ≤ 1
  | [] => ⟨rfl, by decide⟩
  | x :: l => by
    obtain ⟨h1, h2⟩ := lay_intl l
    rw [List.map_cons]
    exact ⟨by unfold PyData.canLayAll0; rw [h1]; rfl, by unfold PyData.depthAll; unfold PyData.depth; omega⟩
theorem lay_encS {x : Str × List Int} (h : PyData.strOk x.1 = true) : PyData.canLay0 (encS x) = true ∧ PyData.depth (encS x) ≤ 2 := by
  obtain ⟨h1, h2⟩ := lay_intl x.2
  unfold encS
  refine ⟨?_, ?_⟩
  · unfold PyData.canLay0 PyData.canLayAll0
    rw [h1]
    unfold PyData.canLay0
    rw [h]
    rfl
  · unfold PyData.depth PyData.depthAll
    unfold PyData.depth
    omega
theorem lay_encSs : ∀ {l : List (Str × List Int)}, (∀ x ∈ l, PyData.strOk x.1 = true) → PyData.canLayAll0 (l.map encS) = true ∧ PyData.depthAll (l.map encS) ≤ 2
  | [], _ => ⟨rfl, by decide⟩
  | x :: l, h => by
    obtain ⟨h1, h2⟩ := lay_encSs fun y hy => h y (List.mem_cons_of_mem _ hy)
    obtain ⟨h3, h4⟩ := lay_encS (h x List.mem_cons_self)
    rw [List.map_cons]
    exact ⟨by unfold PyData.canLayAll0; rw [h1, h3]; rfl, by unfold PyData.depthAll; omega⟩
theorem shaped_encS {x : Str × List Int} (h : PyData.strOk x.1 = true) : SeqAt.shaped (encS x) = true := by
  obtain ⟨h1, h2⟩ := lay_encS h
  unfold SeqAt.shaped
  rw [Bool.and_eq_true]
  exact ⟨h1, decide_eq_true (by omega)⟩
theorem shaped_encSs {l : List (Str × List Int)} (h : ∀ x ∈ l, PyData.strOk x.1 = true) : SeqAt.shaped (.list (l.map encS)) = true := by
  obtain ⟨h1, h2⟩ := lay_encSs h
  unfold SeqAt.shaped
  rw [Bool.and_eq_true]
  refine ⟨h1, decide_eq_true ?_⟩
  unfold PyData.depth
  omega
theorem free_ok {d : Int} {fs : List (Int × Fct)} : ∀ x ∈ freeL d fs, PyData.strOk x.1 = true := fun x hx => by
  obtain ⟨p, _, e⟩ := List.mem_filterMap.mp hx
  unfold freeG at e
  split at e
  · split at e
    · cases e
      dsimp only
      decide +kernel
    · cases e
  · split at e
    · cases e
      dsimp only
      decide +kernel
    · cases e
  · cases e
theorem freeAt_dp {H : Hp} {v : V} {x : Str × List Int} (h : FreeAt K H v x) : Dp K H v (encS x) := by
  obtain ⟨a, rfl, h⟩ := h
  exact .tup h (.cons (.str _) (dp_ints _))
theorem folk_at (c d : Int) (p : Int × Fct) : ((freeG d p).elim false fun x => decide (x = (("folk" : Str), [c]))) = folkF c d p := by
  have nb : (("bargain" : Str) = "folk") = False := eq_false (by decide +kernel)
  unfold freeG folkF
  split
  · rename_i c' a b e
    rw [e]
    dsimp only
    by_cases h : p.2.w = "folk" ∧ a ≤ d ∧ d ≤ b
    · rw [if_pos h]
      simp [h]
    · rw [if_neg h]
      exact (decide_eq_false fun z => h ⟨z.1, z.2.2⟩).symm
  · rename_i g c' a b e
    rw [e]
    dsimp only
    split
    · simp [nb]
    · rfl
  · rename_i h1 h2
    split
    · rename_i e
      exact absurd e (h1 _ _ _)
    · rfl
theorem barg_at (g c d : Int) (p : Int × Fct) : ((freeG d p).elim false fun x => decide (x = (("bargain" : Str), [g, c]))) = bargF g c d p := by
  have nb : (("folk" : Str) = "bargain") = False := eq_false (by decide +kernel)
  unfold freeG bargF
  split
  · rename_i c' a b e
    rw [e]
    dsimp only
    split
    · simp [nb]
    · rfl
  · rename_i g' c' a b e
    rw [e]
    dsimp only
    by_cases h : p.2.w = "bargain" ∧ a ≤ d ∧ d ≤ b
    · rw [if_pos h]
      simp [h]
    · rw [if_neg h]
      exact (decide_eq_false fun z => h ⟨z.1, z.2.2.2⟩).symm
  · rename_i h1 h2
    split
    · rename_i e
      exact absurd e (h2 _ _ _ _)
    · rfl
theorem free_any (d : Int) (fs : List (Int × Fct)) (y : Str × List Int) (f : Int × Fct → Bool) (hf : ∀ p, ((freeG d p).elim false fun x => decide (x = y)) = f p) : ((freeL d fs).map encS).any (fun z => PyData.eqv z (encS y)) = fs.any f := by
  rw [List.any_map]
  unfold freeL
  rw [List.any_filterMap]
  congr 1
  funext p
  rw [← hf p]
  cases freeG d p with
  | none => rfl
  | some x => exact eqv_encS x y
def ChkAt (K : PySem.W.Frag) (H : Hp) (v : V) (x : Int × Str) : Prop := ∃ a, v = .ref a ∧ SqT K H a [.int x.1, markV x.2]
theorem ChkAt.tk {H H' : Hp} (e : Tk K H H') {v : V} {x : Int × Str} (h : ChkAt K H v x) : ChkAt K H' v x := by
  obtain ⟨a, rfl, h⟩ := h
  exact ⟨a, rfl, e _ _ h⟩
theorem chkAt_tk {H H' : Hp} (e : Tk K H H') {vs : List V} {xs : Bars} (h : All2 (ChkAt K H) vs xs) : All2 (ChkAt K H') vs xs := h.mono fun _ _ q => q.tk e
def RowAt (K : PySem.W.Frag) (H : Hp) (v : V) (r : Row) : Prop := ∃ a, v = .ref a ∧ SqT K H a r.v
theorem RowAt.tk {H H' : Hp} (e : Tk K H H') {v : V} {x : Row} (h : RowAt K H v x) : RowAt K H' v x := by
  obtain ⟨a, rfl, h⟩ := h
  exact ⟨a, rfl, e _ _ h⟩
def spTold (K : PySem.W.Frag) (C : Addr) : Sp := fun vs H Q _ => ∃ (o lc : Addr) (pv : V) (fs : List (Int × Fct)) (c d : Int) (ts : List Spot) (s : Spot) (cv : List V), vs = [.ref o, pv, .ref lc] ∧ CD K C H o fs c d ∧ GFs fs ∧ s ∈ ordF c d fs ∧ SpotAt K H pv s ∧
  H lc = some (.lst cv) ∧ All2 (ChkAt K H) cv (barsF fs d ts s) ∧ ∀ a H', Ex H H' → SqT K H' a (rowF fs c d ts s).v → Q (.ref a) H'
theorem markV_non {w : Str} : (markV w = .non) ↔ w = "" := by
  unfold markV
  split
  · rename_i h
    exact ⟨fun _ => h, fun _ => rfl⟩
  · rename_i h
    exact ⟨fun z => (by cases z), fun z => absurd z h⟩
theorem sc_c_CarriageDay_told_row : FnScope ["self", "passing", "checks", "_", "number", "gate", "horses", "ticket", "hindrance"] ["self", "passing", "checks"] (defScope s_c_CarriageDay_told_row) :=
  ⟨rfl, rfl, rfl, by decide +kernel, rfl, by decide +kernel, by decide +kernel⟩
theorem ok_c_CarriageDay_told_row (T : Tx P K mg w) : FnOk P w K mg base CX0 4 T.f_c_CarriageDay_told_row T.d_c_CarriageDay_told_row ["self", "passing", "checks"] (spTold K T.C_CarriageDay) := by
  refine T.F_c_CarriageDay_told_row.ok sc_c_CarriageDay_told_row (fun vs H Q E h => ?_) (fun cdv A outer s H vs Q E hr h => ?_)
  · obtain ⟨o, lc, pv, fs, c, d, ts, s, cv, rfl, _⟩ := h
    rfl
  · obtain ⟨o, lc, pv, fs, c, d, ts, p, cv, rfl, hcd, gf, hp, ⟨pa, rfl, hpa⟩, hlc, hcv, k⟩ := h
    obtain ⟨dx, l, lo, lf, ld, lb, vo, vf, kl, kb, ho, rl, _, ⟨hlf, hvf⟩, _, _⟩ := hcd.ex
    replace hpa : SqT K H pa [.int p.m, .int p.n, .int p.g, .int p.h] := hpa
    have dfree : Dp K H (.ref lf) (.list ((freeL d fs).map encS)) := .lst (SqL.of hlf) (all2_dp encS (fun _ _ q => freeAt_dp q) hvf)
    have sfree := shaped_encSs (l := freeL d fs) free_ok
    refine ⟨_, (pss_cons (ps_asg (pv 1) (pg_tup (by rfl) (pgs_cons (pg_name (i := 3) sc_c_CarriageDay_told_row.nd rfl (Or.inl rfl)) (pgs_cons (pg_name (i := 4) sc_c_CarriageDay_told_row.nd rfl (Or.inl rfl)) (pgs_cons (pg_name (i := 5) sc_c_CarriageDay_told_row.nd rfl (Or.inl rfl)) (pgs_cons (pg_name (i := 6) sc_c_CarriageDay_told_row.nd rfl (Or.inl rfl)) pgs_nil)))))) (pss_cons (ps_if (pt_cmpR (r := rInD K) (op_inD (u65 hr)) (pe_tup (pa_cons pe_str (pa_cons (pe_fld (pv 0) rfl) pa_nil))) (pe_fld (pv 0) rfl) (by rfl)) (pss_one (ps_ret (pe_tup (pa_cons (pv 4) (pa_cons pe_str (pa_cons pe_non (pa_cons pe_int pa_nil))))))) pss_nil) (pss_cons (ps_if (pt_cmpR (r := rInD K) (op_inD (u65 hr)) (pe_tup (pa_cons pe_str (pa_cons (pv 5) (pa_cons (pe_fld (pv 0) rfl) pa_nil)))) (pe_fld (pv 0) rfl) (by rfl)) (pss_one (ps_ret (pe_tup (pa_cons (pv 4) (pa_cons pe_str (pa_cons pe_non (pa_cons pe_int pa_nil))))))) pss_nil) (pss_cons (ps_for PassesOwn.never rfl (pi_list (pv 2)) (pg_tup (by rfl) (pgs_cons (pg_name (i := 7) sc_c_CarriageDay_told_row.nd rfl (Or.inl rfl)) (pgs_cons (pg_name (i := 8) sc_c_CarriageDay_told_row.nd rfl (Or.inl rfl)) pgs_nil))) (pss_one (ps_if (pt_cmpR op_isN1 (pv 8) pe_non (nomark _)) (pss_one (ps_ret (pe_tup (pa_cons (pv 4) (pa_cons pe_str (pa_cons (pv 7) (pa_cons pe_int pa_nil))))))) pss_nil))) (pss_one (ps_ret (pe_tup (pa_cons (pv 4) (pa_cons pe_str (pa_cons pe_non (pa_cons (pe_call (ok_p_fare T) (hr.mono (by decide)) rfl T.g_p_fare T.F_p_fare.kp T.b_p_fare .nil pass0 (pa_cons (pe_fld (pv 0) rfl) (pa_cons (pv 5) (pa_cons (pv 6) (pa_cons (pe_fld (pv 0) rfl) pa_nil))))) pa_nil))))))))))), ?_⟩
    refine at_start (ρ' := [some _, some _, some _, none, none, none, none, none, none]) rfl ?_
    walk_at "z0"
    walk_at "z"
    refine s_fldGet ho T.cls_CarriageDay T.na_CarriageDay_carriage rfl ?_
    walk_at "z"
    rename_i t1 H1 _ e1 ht1
    refine s_fldGet (e1 _ _ ho) T.cls_CarriageDay T.na_CarriageDay_free rfl ?_
    walk_at "z"
    refine s_inD (encS ("folk", [c])) _ (.tup (SqT.of ht1) (.cons (.str _) (.cons (.int _) .nil))) (dp_ex e1 dfree) (shaped_encS (by dsimp only; decide +kernel)) sfree ?_
    rw [free_any d fs _ _ (folk_at c d)]
    walk_at "z"
    unfold rowF at k
    refine ite_both (fun h1 => ?_) (fun h1 => ?_)
    · rw [if_pos h1] at k
      walk_at "z"
      rename_i r H2 _ e2 hr2
      exact k r H2 (e1.trans e2) (SqT.of hr2)
    · rw [if_neg (by rw [h1]; decide)] at k
      walk_at "z"
      refine s_fldGet (e1 _ _ ho) T.cls_CarriageDay T.na_CarriageDay_carriage rfl ?_
      walk_at "z"
      rename_i t2 H2 _ e2 ht2
      have e02 := e1.trans e2
      refine s_fldGet (e02 _ _ ho) T.cls_CarriageDay T.na_CarriageDay_free rfl ?_
      walk_at "z"
      refine s_inD (encS ("bargain", [p.g, c])) _ (.tup (SqT.of ht2) (.cons (.str _) (.cons (.int _) (.cons (.int _) .nil)))) (dp_ex e02 dfree) (shaped_encS (by dsimp only; decide +kernel)) sfree ?_
      rw [free_any d fs _ _ (barg_at p.g c d)]
      walk_at "z"
      refine ite_both (fun h2 => ?_) (fun h2 => ?_)
      · rw [if_pos h2] at k
        walk_at "z"
        rename_i r H3 _ e3 hr3
        exact k r H3 (e02.trans e3) (SqT.of hr3)
      · rw [if_neg (by rw [h2]; decide)] at k
        walk_at "z"
        refine l_list cv (fun i σ H' => ∃ v3 v7 v8, σ = [some (.ref o), some (.ref pa), some (.ref lc), v3, some (.int p.n), some (.int p.g), some (.int p.h), v7, v8] ∧ H' = H2 ∧ (ts.take i).find? (fun t => decide (barF fs d t p = "")) = none) ⟨_, _, _, rfl, rfl, rfl⟩
          (fun i σ H' hi h => ?_) (fun i x σ H' hi h => ?_) (fun σ H' h => ?_)
        · obtain ⟨_, _, _, rfl, rfl, _⟩ := h
          exact SqL.of (e02 _ _ hlc)
        · obtain ⟨v3, v7, v8, rfl, rfl, hn⟩ := h
          obtain ⟨b, hb, a, rfl, ha⟩ := hcv.get hi
          unfold barsF at hb
          rw [List.getElem?_map] at hb
          obtain ⟨t, ht, rfl⟩ := Option.map_eq_some_iff.mp hb
          replace ha := e02.sqT ha
          dsimp only at ha
          walk_at "z"
          refine ite_dec (fun h3 => ?_) (fun h3 => ?_)
          · have h4 := markV_non.mp h3
            walk_at "z"
            rename_i r H3 _ e3 hr3
            have ef : ts.find? (fun t => decide (barF fs d t p = "")) = some t := by
              rw [← List.take_append_drop i ts, List.find?_append, hn, Option.none_or]
              obtain ⟨hi2, e⟩ := List.getElem?_eq_some_iff.mp ht
              rw [List.drop_eq_getElem_cons hi2, e, List.find?_cons, decide_eq_true h4]
            rw [ef] at k
            exact k r H3 (e02.trans e3) (SqT.of hr3)
          · walk_at "z"
            refine ⟨_, _, _, rfl, rfl, ?_⟩
            rw [List.take_succ, ht, List.find?_append, hn, Option.none_or]
            simp only [Option.toList_some, List.find?_cons, List.find?_nil]
            rw [decide_eq_false fun z => h3 (markV_non.mpr z)]
        · obtain ⟨v3, v7, v8, rfl, rfl, hn⟩ := h
          rw [List.take_of_length_le (by rw [hcv.len]; unfold barsF; rw [List.length_map]; exact Nat.le_refl _)] at hn
          rw [hn] at k
          obtain ⟨_, _, _, _, r2, _⟩ := ord_gf gf hp
          walk_at "z"
          refine s_fldGet (e02 _ _ ho) T.cls_CarriageDay T.na_CarriageDay_all_facts rfl ?_
          walk_at "z"
          refine s_fldGet (e02 _ _ ho) T.cls_CarriageDay T.na_CarriageDay_day rfl ?_
          walk_at "z"
          refine ⟨l, _, _, d, fs, rfl, rl_ex e02 rl, gf, r2, fun H3 e3 => ?_⟩
          walk_at "z"
          rename_i r H4 _ e4 hr4
          exact k r H4 ((e02.trans e3).trans e4) (SqT.of hr4)

/-! the walk -/
def ToldAt (K : PySem.W.Frag) (M : List Addr) (H : Hp) (v : V) (x : Row × Bars) : Prop := ∃ a r lc cv, v = .ref a ∧ SqT K H a [.ref r, .ref lc] ∧ SqT K H r x.1.v ∧ H lc = some (.lst cv) ∧ All2 (ChkAt K H) cv x.2 ∧ ∀ m ∈ M, lc ≠ m
theorem told_ex {M : List Addr} {H H' : Hp} (e : Ex H H') {vs : List V} {xs : List (Row × Bars)} (h : All2 (ToldAt K M H) vs xs) : All2 (ToldAt K M H') vs xs := h.mono fun _ _ ⟨a, r, lc, cv, h1, h2, h3, h4, h5, h6⟩ => ⟨a, r, lc, cv, h1, e.sqT h2, e.sqT h3, e _ _ h4, chkAt_tk e.tk h5, h6⟩
theorem told_fr {M : List Addr} {b : Addr} {ys : List V} {H H' : Hp} (e : Fr b H H') (hb : H b = some (.lst ys)) (m : b ∈ M) {vs : List V} {xs : List (Row × Bars)} (h : All2 (ToldAt K M H) vs xs) : All2 (ToldAt K M H') vs xs := h.mono fun _ _ ⟨a, r, lc, cv, h1, h2, h3, h4, h5, h6⟩ => ⟨a, r, lc, cv, h1, tk_lst e hb _ _ h2, tk_lst e hb _ _ h3, e _ _ (h6 b m) h4, chkAt_tk (tk_lst e hb) h5, h6⟩
theorem run_sub {fs : List (Int × Fct)} {c d : Int} : ∀ (l : List Spot) (a : List Spot × List (Row × Bars)) (t : Spot), t ∈ (l.foldl (stepF fs c d) a).1 → t ∈ a.1 ∨ t ∈ l
  | [], a, t, h => .inl h
  | s :: l, a, t, h => by
    rw [List.foldl_cons] at h
    rcases run_sub l _ t h with h | h
    · unfold stepF at h
      dsimp only at h
      split at h
      · rcases List.mem_append.mp h with h | h
        · exact .inl h
        · exact .inr (by rw [List.mem_singleton.mp h]; exact List.mem_cons_self)
      · exact .inl h
    · exact .inr (List.mem_cons_of_mem _ h)
def spWalk (K : PySem.W.Frag) (C : Addr) : Sp := fun vs H Q _ => ∃ (o : Addr) (fs : List (Int × Fct)) (c d : Int), vs = [.ref o] ∧ CD K C H o fs c d ∧ GFs fs ∧ fs.length ≤ 1000 ∧
  ∀ p tv H', H p = none → Ex H H' → H' p = some (.lst tv) → All2 (ToldAt K [p] H') tv (walkF fs c d) → Q (.ref p) H'
theorem sc_c_CarriageDay_walk : FnScope ["self", "tickets", "told", "passing", "checks", "row", "ticket"] ["self"] (defScope s_c_CarriageDay_walk) :=
  ⟨rfl, rfl, rfl, by decide +kernel, rfl, by decide +kernel, by decide +kernel⟩
theorem ok_c_CarriageDay_walk (T : Tx P K mg w) : FnOk P w K mg base CX0 5 T.f_c_CarriageDay_walk T.d_c_CarriageDay_walk ["self"] (spWalk K T.C_CarriageDay) := by
  refine T.F_c_CarriageDay_walk.ok sc_c_CarriageDay_walk (fun vs H Q E h => ?_) (fun cdv A outer s H vs Q E hr h => ?_)
  · obtain ⟨o, fs, c, d, rfl, _⟩ := h
    rfl
  · obtain ⟨o, fs, c, d, rfl, hcd, gf, hz, k⟩ := h
    obtain ⟨dx, l, lo, lf, ld, lb, vo, vf, kl, kb, ho, rl, ⟨hlo, hvo⟩, _⟩ := hcd.ex
    refine ⟨_, (pss_cons (ps_set (i := 1) sc_c_CarriageDay_walk.nd rfl (Or.inl rfl) (pe_lst pa_nil)) (pss_cons (ps_set (i := 2) sc_c_CarriageDay_walk.nd rfl (Or.inl rfl) (pe_lst pa_nil)) (pss_cons (ps_for PassesOwn.never rfl (pi_list (pe_fld (pv 0) rfl)) (pg_name (i := 3) sc_c_CarriageDay_walk.nd rfl (Or.inr rfl)) (pss_cons (ps_setLc (i := 4) (own := [("ticket", 6)]) (by rfl) sc_c_CarriageDay_walk.nd rfl rfl (sw_true rfl rfl rfl (by decide +kernel)) (pi_list (pv 1)) (blkOk_by (own := [("ticket", 6)]) (N := ["self", "tickets", "told", "passing", "checks", "row", "ticket"]) (sc := defScope s_c_CarriageDay_walk) (by decide +kernel)) (fun _ _ _ _ _ => (pg_name (i := 6) sc_c_CarriageDay_walk.nd rfl (Or.inl rfl))) (fun _ _ _ _ _ => pts_nil) (fun _ _ _ _ _ => (pe_tup (pa_cons (pe_ix (r := rIxT K) ix_tup (pv 6) pe_int (fun _ _ => rfl)) (pa_cons (pe_meth (pv 0) T.cls_CarriageDay ⟨T.at_c_CarriageDay_hindrance, T.fn_c_CarriageDay_hindrance, T.F_c_CarriageDay_hindrance.kp⟩ (ok_c_CarriageDay_hindrance T) (hr.mono (by decide)) T.b_c_CarriageDay_hindrance .nil pass0 (pa_cons (pv 6) (pa_cons (pv 3) pa_nil))) pa_nil))))) (pss_cons (ps_set (i := 5) sc_c_CarriageDay_walk.nd rfl (Or.inl rfl) (pe_meth (pv 0) T.cls_CarriageDay ⟨T.at_c_CarriageDay_told_row, T.fn_c_CarriageDay_told_row, T.F_c_CarriageDay_told_row.kp⟩ (ok_c_CarriageDay_told_row T) (hr.mono (by decide)) T.b_c_CarriageDay_told_row .nil pass0 (pa_cons (pv 3) (pa_cons (pv 4) pa_nil)))) (pss_cons (ps_if (pt_cmpR op_eq (pe_ix (r := rIxT K) ix_tup (pv 5) pe_int (fun _ _ => rfl)) pe_str (nomark _)) (pss_one (ps_expr (pe_bm PySem.F.plainAttrs_list PySem.F.slot_list_append PySem.F.type_list_append mt_append (pv 1) (pa_cons (pv 3) pa_nil)))) pss_nil) (pss_one (ps_expr (pe_bm PySem.F.plainAttrs_list PySem.F.slot_list_append PySem.F.type_list_append mt_append (pv 2) (pa_cons (pe_tup (pa_cons (pv 5) (pa_cons (pv 4) pa_nil))) pa_nil)))))))) (pss_one (ps_ret (pv 2)))))), ?_⟩
    refine at_start (ρ' := [some _, none, none, none, none, none, none]) rfl ?_
    walk_at "z0"
    walk_at "z"
    rename_i lt H1 n1 e1 hlt lp H2 n2 e2 hlp
    have e02 := e1.trans e2
    have nlp : H lp = none := Ex.back e1 n2
    have ne : lt ≠ lp := ne_of_none hlt n2
    refine s_fldGet (e02 _ _ ho) T.cls_CarriageDay T.na_CarriageDay_order rfl ?_
    refine l_list vo (fun i σ H' => ∃ tk tv v3 v4 v5, σ = [some (.ref o), some (.ref lt), some (.ref lp), v3, v4, v5, none] ∧ Ex H H' ∧ H' lt = some (.lst tk) ∧ All2 (SpotAt K H') tk (runF fs c d ((ordF c d fs).take i)).1 ∧ H' lp = some (.lst tv) ∧ All2 (ToldAt K [lp, lt] H') tv (runF fs c d ((ordF c d fs).take i)).2)
      ⟨[], [], _, _, _, rfl, e02, e2 _ _ hlt, .nil, hlp, .nil⟩ (fun i σ H' hi h => ?_) (fun i x σ H3 hi h => ?_) (fun σ H3 h => ?_)
    · obtain ⟨tk, tv, _, _, _, rfl, e3, _⟩ := h
      exact SqL.of (e3 _ _ hlo)
    · obtain ⟨tk, tv, v3, v4, v5, rfl, e3, ht3, htk, hp3, htv⟩ := h
      obtain ⟨sp, hsp, hx⟩ := hvo.get hi
      have hsm : sp ∈ ordF c d fs := List.mem_of_getElem? hsp
      have hi1 : i < (ordF c d fs).length := (List.getElem?_eq_some_iff.mp hsp).1
      have hol := @ord_len c d fs
      obtain ⟨g1, g2⟩ := step_len (fs := fs) (c := c) (d := d) ((ordF c d fs).take i) ([], [])
      replace g1 : (runF fs c d ((ordF c d fs).take i)).1.length ≤ 0 + _ := g1
      replace g2 : (runF fs c d ((ordF c d fs).take i)).2.length = 0 + _ := g2
      rw [List.length_take] at g1 g2
      have gt := htk.len
      have gv := htv.len
      have er := run_take (fs := fs) (c := c) (d := d) hsp
      have sub : ∀ t ∈ (runF fs c d ((ordF c d fs).take i)).1, t ∈ ordF c d fs := fun t ht => by
        rcases run_sub _ _ t ht with h | h
        · cases h
        · exact List.mem_of_mem_take h
      generalize runF fs c d ((ordF c d fs).take i) = st at htk htv g1 g2 gt gv er sub
      obtain ⟨ts, rows⟩ := st
      dsimp only at htk htv g1 g2 gt gv sub
      obtain ⟨xa, rfl, hxa⟩ := hx
      replace hxa := e3.sqT hxa
      walk_at "z"
      refine c_list tk (SqL.of ht3) (fun D H' => H3 D = none ∧ Ex H3 H') (fun D j acc H' => All2 (ChkAt K H') acc (barsF fs d (ts.take j) sp)) (fun D H' n e _ => ⟨⟨n, e⟩, .nil⟩) (fun D H' Iv => SqL.of (Iv.2 _ _ ht3)) (fun D j acc H4 y hy Iv hl hn r => ?_) (fun D acc H4 Iv hl hn r => ?_)
      · obtain ⟨nD, e4⟩ := Iv
        obtain ⟨t, htj, ya, rfl, hya⟩ := htk.get hy
        have hj : j < tk.length := (List.getElem?_eq_some_iff.mp hy).1
        replace hya : SqT K H4 ya [.int t.m, .int t.n, .int t.g, .int t.h] := e4.sqT hya
        walk_at "z"
        refine ⟨rfl, ?_⟩
        walk_at "z"
        refine s_methA ?_
        walk_at "z"
        refine s_on (e4 _ _ (e3 _ _ ho)) rfl ?_
        walk_at "z"
        refine ⟨o, _, _, fs, c, d, t, sp, rfl, (hcd.mono e3).mono e4, gf, sub t (List.mem_of_getElem? htj), ⟨ya, rfl, hya⟩, ⟨xa, rfl, e4.sqT hxa⟩, ?_⟩
        walk_at "z"
        rename_i q H5 _ e5 hq
        refine c_put (e5 _ _ hl) ⟨hn, by omega⟩ fun H6 f6 _ => ⟨⟨nD, (e4.trans e5).fr2 nD f6⟩, ?_⟩
        have tk6 := tk_lst (K := K) f6 (e5 _ _ hl)
        have eb : barsF fs d (ts.take (j + 1)) sp = barsF fs d (ts.take j) sp ++ [(t.n, barF fs d t sp)] := by
          unfold barsF
          rw [List.take_succ, htj, List.map_append]
          rfl
        rw [eb]
        exact (chkAt_tk (e5.tk.trans tk6) r).snoc ⟨q, rfl, tk6 _ _ (SqT.of hq)⟩
      · obtain ⟨nD, e4⟩ := Iv
        rw [List.take_of_length_le (by rw [gt]; exact Nat.le_refl _)] at r
        walk_at "z"
        refine s_methA ?_
        walk_at "z"
        refine s_on (e4 _ _ (e3 _ _ ho)) rfl ?_
        walk_at "z"
        refine ⟨o, D, _, fs, c, d, ts, sp, acc, rfl, (hcd.mono e3).mono e4, gf, hsm, ⟨xa, rfl, e4.sqT hxa⟩, hl, r, fun ra H5 e5 hra => ?_⟩
        have e35 := e4.trans e5
        have nDt : D ≠ lt := (ne_of_none ht3 nD).symm
        have nDp : D ≠ lp := (ne_of_none hp3 nD).symm
        replace htk := spotAt_tk e35.tk htk
        replace htv := told_ex e35 htv
        replace ht3 := e35 _ _ ht3
        replace hp3 := e35 _ _ hp3
        replace hl := e5 _ _ hl
        replace r := chkAt_tk e5.tk r
        replace e3 := e3.trans e35
        replace hxa := e35.sqT hxa
        clear e4 e5 e35
        have e1' : (stepF fs c d (ts, rows) sp).2 = rows ++ [(rowF fs c d ts sp, barsF fs d ts sp)] := rfl
        have e2' : (stepF fs c d (ts, rows) sp).1 = if (rowF fs c d ts sp).w = "owed" then ts ++ [sp] else ts := rfl
        walk_at "z"
        refine ite_dec (fun h1 => ?_) (fun h1 => ?_)
        · rw [if_pos h1] at e2'
          walk_at "z"
          refine s_app ht3 (szl (by omega)) fun H6 f6 ht6 => ?_
          have tk6 := tk_lst (K := K) f6 ht3
          walk_at "z"
          rename_i q H7 _ e7 hq
          refine s_app (e7 _ _ (f6 _ _ ne.symm hp3)) (szl (by omega)) fun H8 f8 hp8 => ?_
          have tk8 := tk_lst (K := K) f8 (e7 _ _ (f6 _ _ ne.symm hp3))
          have tk := (tk6.trans e7.tk).trans tk8
          refine ⟨_, _, _, _, _, rfl, ((e3.fr2 n1 f6).trans e7).fr2 nlp f8, f8 _ _ ne (e7 _ _ ht6), ?_, hp8, ?_⟩
          · rw [er, e2']
            exact (spotAt_tk tk htk).snoc ⟨xa, rfl, tk _ _ hxa⟩
          · rw [er, e1']
            have h6 := told_fr f6 ht3 (by simp) htv
            have h8 := told_fr f8 (e7 _ _ (f6 _ _ ne.symm hp3)) (by simp) (told_ex e7 h6)
            refine h8.snoc ⟨q, ra, D, acc, rfl, tk8 _ _ (SqT.of hq), tk _ _ hra, f8 _ _ nDp (e7 _ _ (f6 _ _ nDt hl)), chkAt_tk tk r, fun m hm => ?_⟩
            rcases List.mem_cons.mp hm with rfl | hm
            · exact nDp
            · rw [List.mem_singleton.mp hm]
              exact nDt
        · rw [if_neg h1] at e2'
          walk_at "z"
          rename_i q H7 _ e7 hq
          refine s_app (e7 _ _ hp3) (szl (by omega)) fun H8 f8 hp8 => ?_
          have tk8 := tk_lst (K := K) f8 (e7 _ _ hp3)
          have tk := e7.tk.trans tk8
          refine ⟨_, _, _, _, _, rfl, (e3.trans e7).fr2 nlp f8, f8 _ _ ne (e7 _ _ ht3), ?_, hp8, ?_⟩
          · rw [er, e2']
            exact spotAt_tk tk htk
          · rw [er, e1']
            have h8 := told_fr f8 (e7 _ _ hp3) (by simp) (told_ex e7 htv)
            refine h8.snoc ⟨q, ra, D, acc, rfl, tk8 _ _ (SqT.of hq), tk _ _ hra, f8 _ _ nDp (e7 _ _ hl), chkAt_tk tk r, fun m hm => ?_⟩
            rcases List.mem_cons.mp hm with rfl | hm
            · exact nDp
            · rw [List.mem_singleton.mp hm]
              exact nDt
    · obtain ⟨tk, tv, v3, v4, v5, rfl, e3, ht3, htk, hp3, htv⟩ := h
      rw [List.take_of_length_le (by rw [hvo.len]; exact Nat.le_refl _)] at htv
      walk_at "z"
      exact k lp tv H3 nlp e3 hp3 (htv.mono fun _ _ ⟨a, r, lc, cv, h1, h2, h3, h4, h5, h6⟩ => ⟨a, r, lc, cv, h1, h2, h3, h4, h5, fun m hm => h6 m (by rw [List.mem_singleton.mp hm]; simp)⟩)

/-! a day's rows -/
def spDayWalk (K : PySem.W.Frag) : Sp := fun vs H Q _ => ∃ (l : Addr) (c d : Int) (fs : List (Int × Fct)), vs = [.ref l, .int c, .int d] ∧ RL K H l fs ∧ GFs fs ∧ fs.length ≤ 1000 ∧ R 0 9 c ∧ R 0 999 d ∧
  ∀ p vs H', H p = none → Ex H H' → H' p = some (.lst vs) → All2 (RowAt K H') vs (rowsF fs c d) → Q (.ref p) H'
theorem use_cd {C o dx l : Addr} {H : Hp} {fs : List (Int × Fct)} {c d : Int} {E : XK} {R : Addr → Hp → Prop} (rl : RL K H l fs) (gf : GFs fs) (hz : fs.length ≤ 1000) (k : ∀ o H', H o = none → Ex H H' → CD K C H' o fs c d → R o H') :
    ∀ x dx, H x = none → H dx = none → dx ≠ x → spCdInit K C [.ref x, .ref l, .int c, .int d] (upd (upd H dx (.own x)) x (.ins C dx [])) (fun v H2 => v = .non ∧ R x H2) E := fun x dx hx hd ne => by
  have e := ex_made (C := C) hx hd
  exact ⟨x, l, dx, c, d, fs, rfl, upd_same, rl_ex e rl, gf, hz, fun H' f cd => ⟨rfl, k x H' hx (fun a o h => f a o (ne_of_none h hx) (e a o h)) cd⟩⟩
theorem on_cd {C o : Addr} {H : Hp} {fs : List (Int × Fct)} {c d : Int} {m : Str} {R : Prop} (h : CD K C H o fs c d) (hm : ∀ l lo lf ld lb, (cdFs l c d lo lf ld lb).lookup m = none) (k : R) : ∃ a' dx' fs', V.ref o = .ref a' ∧ H a' = some (.ins C dx' fs') ∧ fs'.lookup m = none ∧ R := by
  obtain ⟨dx, l, lo, lf, ld, lb, _, _, _, _, ho, _⟩ := h.ex
  exact ⟨o, dx, _, rfl, ho, hm l lo lf ld lb, k⟩
theorem walk_len {fs : List (Int × Fct)} {c d : Int} : (walkF fs c d).length ≤ fs.length := by
  have h := (step_len (fs := fs) (c := c) (d := d) (ordF c d fs) ([], [])).2
  have h2 := @ord_len c d fs
  have h3 : (walkF fs c d).length = 0 + (ordF c d fs).length := h
  omega
/-! the fact of a passing -/
def IsPass (fs : List (Int × Fct)) (n : Int) (f : Fct) (c d : Int) : Prop := (n, f) ∈ fs ∧ ∃ m g h, f = ⟨"pass", [.i d, .i m, .i g, .i c, .i h]⟩ ∧ R 0 9 c ∧ R 0 999 d
theorem isPass_of {fs : List (Int × Fct)} (gf : GFs fs) {n : Int} {f : Fct} (h : (n, f) ∈ fs) (hw : f.w = "pass") : ∃ c d, IsPass fs n f c d := by
  obtain ⟨d, m, g, c, ho, rfl, r1, _, _, r4, _⟩ := gf_pass (gf.good _ h) hw
  exact ⟨c, d, h, m, g, ho, rfl, r4, r1⟩
theorem gfs_inj {fs : List (Int × Fct)} (gf : GFs fs) {n : Int} {f f' : Fct} (h : (n, f) ∈ fs) (h' : (n, f') ∈ fs) : f = f' := by
  obtain ⟨i, hi⟩ := List.getElem?_of_mem h
  obtain ⟨j, hj⟩ := List.getElem?_of_mem h'
  obtain ⟨hi1, hi2⟩ := List.getElem?_eq_some_iff.mp hi
  obtain ⟨hj1, hj2⟩ := List.getElem?_eq_some_iff.mp hj
  have z := gf.rise
  rw [List.pairwise_iff_getElem] at z
  rcases Nat.lt_trichotomy i j with q | q | q
  · have y := z i j (by rw [List.length_map]; exact hi1) (by rw [List.length_map]; exact hj1) q
    rw [List.getElem_map, List.getElem_map, hi2, hj2] at y
    exact absurd y (Int.lt_irrefl _)
  · subst q
    rw [hi] at hj
    cases hj
    rfl
  · have y := z j i (by rw [List.length_map]; exact hj1) (by rw [List.length_map]; exact hi1) q
    rw [List.getElem_map, List.getElem_map, hi2, hj2] at y
    exact absurd y (Int.lt_irrefl _)
def spNeedPass (K : PySem.W.Frag) : Sp := fun vs H Q _ => ∃ (l : Addr) (n : Int) (fs : List (Int × Fct)) (f : Fct), vs = [.ref l, .int n] ∧ RL K H l fs ∧ GFs fs ∧ (n, f) ∈ fs ∧ f.w = "pass" ∧ ∀ v, RF K H v f → Q v H
theorem sc_p_need_passing : FnScope ["facts", "number", "held", "fact"] ["facts", "number"] (defScope s_p_need_passing) :=
  ⟨rfl, rfl, rfl, by decide +kernel, rfl, by decide +kernel, by decide +kernel⟩
theorem ok_p_need_passing (T : Tx P K mg w) : FnOk P w K mg base (CX P w) 3 T.f_p_need_passing T.d_p_need_passing ["facts", "number"] (spX (spNeedPass K) (spBadPass K T.C_NoPassing)) := by
  refine T.F_p_need_passing.okX sc_p_need_passing (fun vs H Q E h => ?_) (fun cdv A outer s H vs Q E hr h => ?_)
  · rcases h with h | h
    · obtain ⟨l, n, fs, f, rfl, _⟩ := h
      rfl
    · exact len_p_need_passing h
  · rcases h with h | h
    · obtain ⟨l, n, fs, f, rfl, ⟨vs, hl, hf⟩, gf, hm, hw, k⟩ := h
      refine ⟨_, (pss_cons (ps_if (pt_val (pe_call (ok_p_is_good T) (hr.mono (by decide)) rfl T.g_p_is_good T.F_p_is_good.kp T.b_p_is_good .nil pass0 (pa_cons pe_str (pa_cons (pv 1) pa_nil)))) (pss_one (ps_for (passes_of rfl) rfl (pi_list (pv 0)) (pg_tup (by rfl) (pgs_cons (pg_name (i := 2) sc_p_need_passing.nd rfl (Or.inl rfl)) (pgs_cons (pg_name (i := 3) sc_p_need_passing.nd rfl (Or.inl rfl)) pgs_nil))) (pss_one (ps_if (PW.pt (pw_and (pt_cmpR op_eq (pv 2) (pv 1) (nomark _)) (pw_and1 (pt_cmpR op_eq (pe_ix (r := rIxT K) ix_tup (pv 3) pe_int (fun _ _ => rfl)) pe_str (nomark _))))) (pss_one (ps_ret (pv 3))) pss_nil)))) pss_nil) (pss_one (ps_raise rfl (takes_of rfl rfl rfl rfl) (pmk_ox T.pk_NoPassing.ox T.in_NoPassing T.FS_c_Missing_init.ty (ok_c_Missing_init T) (hr.mono (by decide)) T.b_c_Missing_init .nil pass0 rfl T.g_NoPassing (pa_cons (pv 1) pa_nil))))), ?_⟩
      refine at_start (ρ' := [some _, some _, none, none]) rfl ?_
      walk_at "z0"
      walk_at "z"
      refine ⟨_, _, 1, none, _, rfl, T.kd_BOUNDS_number, T.kt_BOUNDS_number, ?_⟩
      rw [show within 1 none n = true from by unfold within; rw [decide_eq_true (show (1 : Int) ≤ n from gf.one _ hm)]; rfl]
      walk_at "z"
      refine l_list vs (fun i σ H' => ∃ v2 v3, σ = [some (.ref l), some (.int n), v2, v3] ∧ H' = H ∧ ∀ j, j < i → ∀ g, fs[j]? ≠ some (n, g)) ⟨_, _, rfl, rfl, fun j hj => by omega⟩
        (fun i σ H' hi h => ?_) (fun i x σ H2 hi h => ?_) (fun σ H2 h => ?_)
      · obtain ⟨_, _, rfl, rfl, _⟩ := h
        exact hl
      · obtain ⟨v2, v3, rfl, rfl, hno⟩ := h
        obtain ⟨q, j, u, f2, hfi, rfl, hq, rf⟩ := rfs_get hf hi
        have hm2 := List.mem_of_getElem? hfi
        obtain ⟨a, us, rfl, ha, hu⟩ := id rf
        walk_at "z"
        refine ite_dec (fun h1 => ?_) (fun h1 => ?_)
        · subst h1
          have ef := gfs_inj gf hm2 hm
          subst ef
          walk_at "z"
          refine s_ixT ha (at0 _ _) ?_
          walk_at "z"
          rw [decide_eq_true hw]
          walk_at "z"
          exact k _ rf
        · walk_at "z"
          refine ⟨_, _, rfl, rfl, fun j' hj' g e => ?_⟩
          rcases Nat.lt_succ_iff_lt_or_eq.mp hj' with h2 | h2
          · exact hno j' h2 g e
          · subst h2
            rw [hfi] at e
            cases e
            exact h1 rfl
      · obtain ⟨v2, v3, rfl, rfl, hno⟩ := h
        obtain ⟨j, hj⟩ := List.getElem?_of_mem hm
        have hj2 : j < vs.length := by rw [rfs_len hf]; exact (List.getElem?_eq_some_iff.mp hj).1
        exact absurd hj (hno j hj2 f)
    · obtain ⟨l, n, fs, rfl, ⟨vs, hl, hf⟩, gf, hno, hz, k⟩ := h
      refine ⟨_, (pss_cons (ps_if (pt_val (pe_call (ok_p_is_good T) (hr.mono (by decide)) rfl T.g_p_is_good T.F_p_is_good.kp T.b_p_is_good .nil pass0 (pa_cons pe_str (pa_cons (pv 1) pa_nil)))) (pss_one (ps_for (passes_of rfl) rfl (pi_list (pv 0)) (pg_tup (by rfl) (pgs_cons (pg_name (i := 2) sc_p_need_passing.nd rfl (Or.inl rfl)) (pgs_cons (pg_name (i := 3) sc_p_need_passing.nd rfl (Or.inl rfl)) pgs_nil))) (pss_one (ps_if (PW.pt (pw_and (pt_cmpR op_eq (pv 2) (pv 1) (nomark _)) (pw_and1 (pt_cmpR op_eq (pe_ix (r := rIxT K) ix_tup (pv 3) pe_int (fun _ _ => rfl)) pe_str (nomark _))))) (pss_one (ps_ret (pv 3))) pss_nil)))) pss_nil) (pss_one (ps_raise rfl (takes_of rfl rfl rfl rfl) (pmk_ox T.pk_NoPassing.ox T.in_NoPassing T.FS_c_Missing_init.ty (ok_c_Missing_init T) (hr.mono (by decide)) T.b_c_Missing_init .nil pass0 rfl T.g_NoPassing (pa_cons (pv 1) pa_nil))))), ?_⟩
      refine at_start (ρ' := [some _, some _, none, none]) rfl ?_
      walk_at "z0"
      walk_at "z"
      refine ⟨_, _, 1, none, _, rfl, T.kd_BOUNDS_number, T.kt_BOUNDS_number, ?_⟩
      by_cases hn : (1 : Int) ≤ n
      · rw [show within 1 none n = true from by unfold within; rw [decide_eq_true hn]; rfl]
        walk_at "z"
        refine l_list vs (fun i σ H' => ∃ v2 v3, σ = [some (.ref l), some (.int n), v2, v3] ∧ H' = H) ⟨_, _, rfl, rfl⟩
          (fun i σ H' hi h => ?_) (fun i x σ H2 hi h => ?_) (fun σ H2 h => ?_)
        · obtain ⟨_, _, rfl, rfl⟩ := h
          exact hl
        · obtain ⟨v2, v3, rfl, rfl⟩ := h
          obtain ⟨q, j, u, f2, hfi, rfl, hq, rf⟩ := rfs_get hf hi
          have hm2 := List.mem_of_getElem? hfi
          obtain ⟨a, us, rfl, ha, hu⟩ := id rf
          walk_at "z"
          refine ite_dec (fun h1 => ?_) (fun h1 => ?_)
          · subst h1
            walk_at "z"
            refine s_ixT ha (at0 _ _) ?_
            walk_at "z"
            rw [decide_eq_false (hno f2 hm2)]
            walk_at "z"
            exact ⟨_, _, rfl, rfl⟩
          · walk_at "z"
            exact ⟨_, _, rfl, rfl⟩
        · obtain ⟨v2, v3, rfl, rfl⟩ := h
          refine s_mkO ?_
          walk_at "z"
          exact use_miss T.pk_NoPassing T.no_NoPassing hz k
      · rw [show within 1 none n = false from by unfold within; rw [decide_eq_false hn]; rfl]
        walk_at "z"
        refine s_mkO ?_
        walk_at "z"
        exact use_miss T.pk_NoPassing T.no_NoPassing hz k
theorem run_ns {fs : List (Int × Fct)} {c d : Int} : ∀ (l : List Spot) (a : List Spot × List (Row × Bars)), (l.foldl (stepF fs c d) a).2.map (·.1.n) = a.2.map (·.1.n) ++ l.map (·.n)
  | [], a => by simp
  | s :: l, a => by
    rw [List.foldl_cons, run_ns l]
    have e : (rowF fs c d a.1 s).n = s.n := by
      unfold rowF
      split
      · rfl
      · split
        · rfl
        · split <;> rfl
    unfold stepF
    dsimp only
    rw [List.map_append, List.map_cons, List.map_cons, e, List.append_assoc]
    rfl
theorem walk_ns (fs : List (Int × Fct)) (c d : Int) : (walkF fs c d).map (·.1.n) = (ordF c d fs).map (·.n) := run_ns _ _
theorem rows_ns (fs : List (Int × Fct)) (c d : Int) : (rowsF fs c d).map (·.n) = (ordF c d fs).map (·.n) := by
  unfold rowsF
  rw [List.map_map]
  exact walk_ns fs c d
theorem pass_ord {fs : List (Int × Fct)} {n c d : Int} {f : Fct} (h : IsPass fs n f c d) : ∃ s ∈ ordF c d fs, s.n = n := by
  obtain ⟨hm, m, g, ho, rfl, _⟩ := h
  refine ⟨⟨m, n, g, ho⟩, (ord_perm c d fs).mem_iff.mpr (List.mem_filterMap.mpr ⟨_, hm, ?_⟩), rfl⟩
  unfold spotF
  dsimp only
  exact if_pos ⟨rfl, rfl, rfl⟩
theorem pass_walk {fs : List (Int × Fct)} {n c d : Int} {f : Fct} (h : IsPass fs n f c d) : ∃ x ∈ walkF fs c d, x.1.n = n := by
  obtain ⟨s, hs, e⟩ := pass_ord h
  have : n ∈ (walkF fs c d).map (·.1.n) := by
    rw [walk_ns]
    exact List.mem_map.mpr ⟨s, hs, e⟩
  exact List.mem_map.mp this

theorem rf_pass {H : Hp} {v : V} {f : Fct} {fs : List (Int × Fct)} {n c d : Int} (h : RF K H v f) (p : IsPass fs n f c d) : ∃ a m g ho, v = .ref a ∧ SqT K H a [.str "pass", .int d, .int m, .int g, .int c, .int ho] := by
  obtain ⟨_, m, g, ho, rfl, _⟩ := p
  obtain ⟨a, us, rfl, ha, hu⟩ := h
  have hu := fds5 hu
  subst hu
  exact ⟨a, m, g, ho, rfl, ha⟩
def spRowOf (K : PySem.W.Frag) : Sp := fun vs H Q _ => ∃ (l : Addr) (n c d : Int) (f : Fct) (fs : List (Int × Fct)), vs = [.ref l, .int n] ∧ RL K H l fs ∧ GFs fs ∧ fs.length ≤ 1000 ∧ IsPass fs n f c d ∧
  ∀ a r H', Ex H H' → r ∈ rowsF fs c d → r.n = n → SqT K H' a r.v → Q (.ref a) H'
def spWhy (K : PySem.W.Frag) : Sp := fun vs H Q _ => ∃ (l : Addr) (n c d : Int) (f : Fct) (fs : List (Int × Fct)), vs = [.ref l, .int n] ∧ RL K H l fs ∧ GFs fs ∧ fs.length ≤ 1000 ∧ IsPass fs n f c d ∧
  ∀ p vs x H', H p = none → Ex H H' → x ∈ walkF fs c d → x.1.n = n → H' p = some (.lst vs) → All2 (ChkAt K H') vs (x.2.filter fun y => !decide (y.2 = "")) → Q (.ref p) H'
theorem bars_len {fs : List (Int × Fct)} {c d : Int} : ∀ x ∈ walkF fs c d, x.2.length ≤ fs.length := by
  have key : ∀ (l : List Spot) (a : List Spot × List (Row × Bars)) (n : Nat), a.1.length + l.length ≤ n → (∀ x ∈ a.2, x.2.length ≤ n) → ∀ x ∈ (l.foldl (stepF fs c d) a).2, x.2.length ≤ n := by
    intro l
    induction l with
    | nil => exact fun a n _ h => h
    | cons s l ih =>
      intro a n h1 h2
      rw [List.foldl_cons]
      rw [List.length_cons] at h1
      refine ih _ n ?_ ?_
      · unfold stepF
        dsimp only
        split
        · rw [List.length_append, List.length_singleton]; omega
        · omega
      · intro x hx
        unfold stepF at hx
        rcases List.mem_append.mp hx with hx | hx
        · exact h2 x hx
        · rw [List.mem_singleton.mp hx]
          unfold barsF
          dsimp only
          rw [List.length_map]
          omega
  have ho := @ord_len c d fs
  exact key _ _ _ (by simpa using ho) (fun x h => by cases h)
theorem sc_p_why : FnScope ["facts", "number", "fact", "hindered", "row", "checks", "check"] ["facts", "number"] (defScope s_p_why) :=
  ⟨rfl, rfl, rfl, by decide +kernel, rfl, by decide +kernel, by decide +kernel⟩
theorem ok_p_why (T : Tx P K mg w) : FnOk P w K mg base (CX P w) 6 T.f_p_why T.d_p_why ["facts", "number"] (spX (spWhy K) (spBadPass K T.C_NoPassing)) := by
  refine T.F_p_why.okX sc_p_why (fun vs H Q E h => ?_) (fun cdv A outer s H vs Q E hr h => ?_)
  · rcases h with h | h
    · obtain ⟨l, n, c, d, f, fs, rfl, _⟩ := h
      rfl
    · exact len_p_why h
  · rcases h with h | h
    · obtain ⟨l, n, c, d, f, fs, rfl, rl, gf, hz, hp, k⟩ := h
      have hw : f.w = "pass" := by
        obtain ⟨_, _, _, _, rfl, _⟩ := hp
        rfl
      refine ⟨_, (pss_cons (ps_set (i := 2) sc_p_why.nd rfl (Or.inl rfl) (pe_call (ok_p_need_passing T) (hr.mono (by decide)) rfl T.g_p_need_passing T.F_p_need_passing.kp T.b_p_need_passing .nil (passes_up (takes_of rfl rfl rfl rfl) fun _ _ _ _ h => h) (pa_cons (pv 0) (pa_cons (pv 1) pa_nil)))) (pss_cons (ps_set (i := 3) sc_p_why.nd rfl (Or.inl rfl) (pe_lst pa_nil)) (pss_cons (ps_for (passes_of rfl) rfl (pi_list (pe_meth0 (pe_make T.mk_CarriageDay (ok_c_CarriageDay_init T) (hr.mono (by decide)) rfl T.g_CarriageDay T.b_c_CarriageDay_init .nil pass0 (pa_cons (pv 0) (pa_cons (pe_ix (r := rIxT K) ix_tup (pv 2) pe_int (fun _ _ => rfl)) (pa_cons (pe_ix (r := rIxT K) ix_tup (pv 2) pe_int (fun _ _ => rfl)) pa_nil)))) T.cls_CarriageDay ⟨T.at_c_CarriageDay_walk, T.fn_c_CarriageDay_walk, T.F_c_CarriageDay_walk.kp⟩ (ok_c_CarriageDay_walk T) (hr.mono (by decide)) T.b_c_CarriageDay_walk .nil pass0)) (pg_tup (by rfl) (pgs_cons (pg_name (i := 4) sc_p_why.nd rfl (Or.inl rfl)) (pgs_cons (pg_name (i := 5) sc_p_why.nd rfl (Or.inl rfl)) pgs_nil))) (pss_one (ps_if (pt_cmpR op_eq (pe_ix (r := rIxT K) ix_tup (pv 4) pe_int (fun _ _ => rfl)) (pv 1) (nomark _)) (pss_one (ps_setLc (i := 3) (own := [("check", 6)]) (by rfl) sc_p_why.nd rfl rfl (sw_true rfl rfl rfl (by decide +kernel)) (pi_list (pv 5)) (blkOk_by (own := [("check", 6)]) (N := ["facts", "number", "fact", "hindered", "row", "checks", "check"]) (sc := defScope s_p_why) (by decide +kernel)) (fun _ _ _ _ _ => (pg_name (i := 6) sc_p_why.nd rfl (Or.inl rfl))) (fun _ _ _ _ _ => (pts_one (pt_cmpR op_notN1 (pe_ix (r := rIxT K) ix_tup (pv 6) pe_int (fun _ _ => rfl)) pe_non (nomark _)))) (fun _ _ _ _ _ => (pv 6)))) pss_nil))) (pss_one (ps_ret (pv 3)))))), ?_⟩
      refine at_start (ρ' := [some _, some _, none, none, none, none, none]) rfl ?_
      walk_at "z0"
      walk_at "z"
      refine .inl ⟨l, n, fs, f, rfl, rl, gf, hp.1, hw, fun v rf => ?_⟩
      obtain ⟨a, m, g, ho, rfl, ha⟩ := rf_pass rf hp
      walk_at "z"
      rename_i h0 H1 n1 e1 hh0
      refine s_methA ?_
      refine s_make ?_
      replace ha := e1.sqT ha
      walk_at "z"
      refine use_cd (o := l) (dx := l) (rl_ex e1 rl) gf hz fun o H2 n2 e2 hcd => ?_
      refine on_cd hcd (fun _ _ _ _ _ => rfl) ?_
      walk_at "z"
      refine ⟨o, fs, c, d, rfl, hcd, gf, hz, fun p tv H3 n3 e3 hpl htv => ?_⟩
      have e23 := e2.trans e3
      have nlp : H p = none := Ex.back e1 (Ex.back e2 n3)
      refine l_list tv (fun i σ H' => ∃ hl hv v4 v5 v6, σ = [some (.ref l), some (.int n), some (.ref a), some (.ref hl), v4, v5, v6] ∧ Ex H1 H' ∧ H' p = some (.lst tv) ∧ All2 (ToldAt K [p] H') tv (walkF fs c d) ∧ H hl = none ∧ H' hl = some (.lst hv) ∧
          ((∀ j x, j < i → (walkF fs c d)[j]? = some x → x.1.n ≠ n) ∨ ∃ x, x ∈ walkF fs c d ∧ x.1.n = n ∧ All2 (ChkAt K H') hv (x.2.filter fun y => !decide (y.2 = ""))))
        ⟨h0, [], _, _, _, rfl, e23, hpl, htv, n1, e23 _ _ hh0, .inl fun j x hj => by omega⟩ (fun i σ H' hi h => ?_) (fun i x σ H4 hi h => ?_) (fun σ H4 h => ?_)
      · obtain ⟨_, _, _, _, _, rfl, _, hp1, _⟩ := h
        exact SqL.of hp1
      · obtain ⟨hl, hv, v4, v5, v6, rfl, e4, hp4, htv4, nhl, hhl, hor⟩ := h
        obtain ⟨y, hy, ta, ra, lc, cv, rfl, hta, hra, hlc, hcv, _⟩ := htv4.get hi
        have hbl := bars_len (fs := fs) (c := c) (d := d) y (List.mem_of_getElem? hy)
        walk_at "z"
        refine ite_dec (fun h1 => ?_) (fun h1 => ?_)
        · walk_at "z"
          refine c_list cv (SqL.of hlc) (fun D H' => H4 D = none ∧ Ex H4 H') (fun D j acc H' => All2 (ChkAt K H') acc ((y.2.take j).filter fun y => !decide (y.2 = ""))) (fun D H' n e _ => ⟨⟨n, e⟩, .nil⟩) (fun D H' Iv => SqL.of (Iv.2 _ _ hlc)) (fun D j acc H5 z hz' Iv hl' hn r => ?_) (fun D acc H5 Iv hl' hn r => ?_)
          · obtain ⟨nD, e5⟩ := Iv
            obtain ⟨b, hb, ba, rfl, hba⟩ := hcv.get hz'
            have hj : j < cv.length := (List.getElem?_eq_some_iff.mp hz').1
            have hcl := hcv.len
            replace hba := e5.sqT hba
            walk_at "z"
            refine ⟨rfl, ?_⟩
            walk_at "z"
            refine ite_ndec (fun h2 => ?_) (fun h2 => ?_)
            · have h3 : b.2 ≠ "" := fun q => h2 (markV_non.mpr q)
              walk_at "z"
              refine c_put hl' ⟨hn, by omega⟩ fun H6 f6 _ => ⟨⟨nD, e5.fr2 nD f6⟩, ?_⟩
              have tk6 := tk_lst (K := K) f6 hl'
              rw [List.take_succ, hb, List.filter_append]
              simp only [Option.toList_some, List.filter_cons, List.filter_nil, decide_eq_false h3, Bool.not_false, if_true]
              exact (chkAt_tk tk6 r).snoc ⟨ba, rfl, tk6 _ _ hba⟩
            · have h3 : b.2 = "" := markV_non.mp h2
              walk_at "z"
              refine c_skip hl' hn ⟨nD, e5⟩ ?_
              rw [List.take_succ, hb, List.filter_append]
              simp only [Option.toList_some, List.filter_cons, List.filter_nil, decide_eq_true h3, Bool.not_true, Bool.false_eq_true, if_false, List.append_nil]
              exact r
          · obtain ⟨nD, e5⟩ := Iv
            rw [List.take_of_length_le (by rw [hcv.len]; exact Nat.le_refl _)] at r
            walk_at "z"
            exact ⟨_, _, _, _, _, rfl, e4.trans e5, e5 _ _ hp4, told_ex e5 htv4, Ex.back (e1.trans e4) nD, hl', .inr ⟨y, List.mem_of_getElem? hy, h1, r⟩⟩
        · walk_at "z"
          refine ⟨_, _, _, _, _, rfl, e4, hp4, htv4, nhl, hhl, ?_⟩
          rcases hor with q | q
          · refine .inl fun j x hj hx => ?_
            rcases Nat.lt_succ_iff_lt_or_eq.mp hj with q1 | q1
            · exact q j x q1 hx
            · subst q1
              rw [hy] at hx
              cases hx
              exact h1
          · exact .inr q
      · obtain ⟨hl, hv, v4, v5, v6, rfl, e4, hp4, htv4, nhl, hhl, hor⟩ := h
        walk_at "z"
        rcases hor with q | ⟨x, q1, q2, q3⟩
        · exfalso
          obtain ⟨x, hx, hxn⟩ := pass_walk hp
          obtain ⟨j, hj⟩ := List.getElem?_of_mem hx
          exact q j x (by rw [htv4.len]; exact (List.getElem?_eq_some_iff.mp hj).1) hj hxn
        · exact k hl hv x H4 nhl (e1.trans e4) q1 q2 hhl q3
    · obtain ⟨l, n, fs, rfl, rl, gf, hno, hz, k⟩ := h
      refine ⟨_, (pss_cons (ps_set (i := 2) sc_p_why.nd rfl (Or.inl rfl) (pe_call (ok_p_need_passing T) (hr.mono (by decide)) rfl T.g_p_need_passing T.F_p_need_passing.kp T.b_p_need_passing .nil (passes_up (takes_of rfl rfl rfl rfl) fun _ _ _ _ h => h) (pa_cons (pv 0) (pa_cons (pv 1) pa_nil)))) (pss_cons (ps_set (i := 3) sc_p_why.nd rfl (Or.inl rfl) (pe_lst pa_nil)) (pss_cons (ps_for (passes_of rfl) rfl (pi_list (pe_meth0 (pe_make T.mk_CarriageDay (ok_c_CarriageDay_init T) (hr.mono (by decide)) rfl T.g_CarriageDay T.b_c_CarriageDay_init .nil pass0 (pa_cons (pv 0) (pa_cons (pe_ix (r := rIxT K) ix_tup (pv 2) pe_int (fun _ _ => rfl)) (pa_cons (pe_ix (r := rIxT K) ix_tup (pv 2) pe_int (fun _ _ => rfl)) pa_nil)))) T.cls_CarriageDay ⟨T.at_c_CarriageDay_walk, T.fn_c_CarriageDay_walk, T.F_c_CarriageDay_walk.kp⟩ (ok_c_CarriageDay_walk T) (hr.mono (by decide)) T.b_c_CarriageDay_walk .nil pass0)) (pg_tup (by rfl) (pgs_cons (pg_name (i := 4) sc_p_why.nd rfl (Or.inl rfl)) (pgs_cons (pg_name (i := 5) sc_p_why.nd rfl (Or.inl rfl)) pgs_nil))) (pss_one (ps_if (pt_cmpR op_eq (pe_ix (r := rIxT K) ix_tup (pv 4) pe_int (fun _ _ => rfl)) (pv 1) (nomark _)) (pss_one (ps_setLc (i := 3) (own := [("check", 6)]) (by rfl) sc_p_why.nd rfl rfl (sw_true rfl rfl rfl (by decide +kernel)) (pi_list (pv 5)) (blkOk_by (own := [("check", 6)]) (N := ["facts", "number", "fact", "hindered", "row", "checks", "check"]) (sc := defScope s_p_why) (by decide +kernel)) (fun _ _ _ _ _ => (pg_name (i := 6) sc_p_why.nd rfl (Or.inl rfl))) (fun _ _ _ _ _ => (pts_one (pt_cmpR op_notN1 (pe_ix (r := rIxT K) ix_tup (pv 6) pe_int (fun _ _ => rfl)) pe_non (nomark _)))) (fun _ _ _ _ _ => (pv 6)))) pss_nil))) (pss_one (ps_ret (pv 3)))))), ?_⟩
      refine at_start (ρ' := [some _, some _, none, none, none, none, none]) rfl ?_
      walk_at "z0"
      walk_at "z"
      exact .inr ⟨l, n, fs, rfl, rl, gf, hno, hz, k⟩

/-! carriages and days that have a passing -/
structure DaysOf (fs : List (Int × Fct)) (ds : List (List Int)) : Prop where
  all : ∀ n f c d, IsPass fs n f c d → [c, d] ∈ ds
  only : ∀ k ∈ ds, ∃ n f c d, k = [c, d] ∧ IsPass fs n f c d
  nd : ds.Nodup
theorem s_sortedSetT {H : Hp} {Q : VK} {a : Addr} {L : List (Addr × List Int)} (d : Nat) (B : Int) (ha : H a = some (SetGO P w a L)) (hk : ∀ p ∈ L, SqT K H p.1 (p.2.map V.int)) (hd : 1 ≤ d) (hB : ∀ p ∈ L, p.2.length = d ∧ TS.Bd B p.2)
    (k : ∀ (L' : List (Addr × List Int)) (p : Addr) H', L'.Perm L → (L'.map (·.2)).Nodup → H p = none → Ex H H' → H' p = some (.lst (L'.map fun q => V.ref q.1)) → Q (.ref p) H') : rSortedG K P w [.ref a] H Q :=
  ⟨a, L, d, B, rfl, ha, hk, hd, hB, fun L' p h1 h2 _ _ h5 => k L' p _ h1 h2 h5 (Ex.new h5) upd_same⟩
theorem all2_addr {H : Hp} : ∀ {L : List (Addr × List Int)}, (∀ p ∈ L, SqT K H p.1 (p.2.map V.int)) → All2 (TIs K H) (L.map fun q => V.ref q.1) (L.map (·.2))
  | [], _ => .nil
  | p :: L, h => .cons ⟨p.1, rfl, h p List.mem_cons_self⟩ (all2_addr fun q hq => h q (List.mem_cons_of_mem _ hq))
def spDays (K : PySem.W.Frag) : Sp := fun vs H Q _ => ∃ (l : Addr) (fs : List (Int × Fct)), vs = [.ref l] ∧ RL K H l fs ∧ GFs fs ∧ fs.length ≤ 200 ∧ ∀ p dv ds H', H p = none → Ex H H' → H' p = some (.lst dv) → All2 (TIs K H') dv ds → DaysOf fs ds → Q (.ref p) H'

theorem nodup_sub_len {α : Type} [DecidableEq α] : ∀ {l m : List α}, l.Nodup → (∀ x ∈ l, x ∈ m) → l.length ≤ m.length
  | [], m, _, _ => Nat.zero_le _
  | x :: l, m, nd, h => by
    have hx := h x List.mem_cons_self
    obtain ⟨n1, n2⟩ := List.nodup_cons.mp nd
    have ih := nodup_sub_len (l := l) (m := m.erase x) n2 fun y hy => (List.mem_erase_of_ne (fun z => n1 (by rw [← z]; exact hy))).mpr (h y (List.mem_cons_of_mem _ hy))
    rw [List.length_erase_of_mem hx] at ih
    have := List.length_pos_of_mem hx
    rw [List.length_cons]
    omega
theorem map_nodup_inj {α β : Type} {f : α → β} : ∀ {l : List α} {a b : α}, (l.map f).Nodup → a ∈ l → b ∈ l → f a = f b → a = b
  | x :: l, a, b, nd, ha, hb, e => by
    rw [List.map_cons] at nd
    obtain ⟨n1, n2⟩ := List.nodup_cons.mp nd
    rcases List.mem_cons.mp ha with ea | ha'
    · rcases List.mem_cons.mp hb with eb | hb'
      · rw [ea, eb]
      · exact absurd (List.mem_map.mpr ⟨b, hb', by rw [← e, ea]⟩) n1
    · rcases List.mem_cons.mp hb with eb | hb'
      · exact absurd (List.mem_map.mpr ⟨a, ha', by rw [e, eb]⟩) n1
      · exact map_nodup_inj n2 ha' hb' e
theorem spot_n {c d : Int} {p : Int × Fct} {s : Spot} (h : spotF c d p = some s) : s.n = p.1 := by
  unfold spotF at h
  split at h
  · split at h
    · cases h
      rfl
    · cases h
  · cases h
theorem spots_ns {c d : Int} : ∀ (fs : List (Int × Fct)), ((spotsF c d fs).map (·.n)).Sublist (fs.map (·.1))
  | [] => List.Sublist.refl _
  | p :: fs => by
    unfold spotsF
    rw [List.filterMap_cons, List.map_cons]
    cases h : spotF c d p with
    | none => exact (spots_ns fs).cons _
    | some s =>
      rw [← spot_n h]
      exact (spots_ns fs).cons₂ _
theorem nums_nd {fs : List (Int × Fct)} (gf : GFs fs) : (fs.map (·.1)).Nodup := gf.rise.imp fun h => Int.ne_of_lt h
theorem ord_nd {fs : List (Int × Fct)} (gf : GFs fs) (c d : Int) : ((ordF c d fs).map (·.n)).Nodup := by
  rw [((ord_perm c d fs).map (·.n)).nodup_iff]
  exact (nums_nd gf).sublist (spots_ns fs)
theorem rows_nd {fs : List (Int × Fct)} (gf : GFs fs) (c d : Int) : ((rowsF fs c d).map (·.n)).Nodup := by
  rw [rows_ns]
  exact ord_nd gf c d
/-- r is the row of the passing x -/
def RowIn (fs : List (Int × Fct)) (x : Int) (r : Row) : Prop := ∃ f c d, IsPass fs x f c d ∧ r ∈ rowsF fs c d ∧ r.n = x
theorem isPass_cd {fs : List (Int × Fct)} (gf : GFs fs) {n c d c' d' : Int} {f f' : Fct} (h : IsPass fs n f c d) (h' : IsPass fs n f' c' d') : f = f' ∧ c = c' ∧ d = d' := by
  have e := gfs_inj gf h.1 h'.1
  subst e
  obtain ⟨_, _, _, _, rfl, _⟩ := h
  obtain ⟨_, _, _, _, e, _⟩ := h'
  cases e
  exact ⟨rfl, rfl, rfl⟩
theorem rowIn_inj {fs : List (Int × Fct)} (gf : GFs fs) {x : Int} {r r' : Row} (h : RowIn fs x r) (h' : RowIn fs x r') : r = r' := by
  obtain ⟨f, c, d, hp, hr, e⟩ := h
  obtain ⟨f', c', d', hp', hr', e'⟩ := h'
  obtain ⟨_, rfl, rfl⟩ := isPass_cd gf hp hp'
  exact map_nodup_inj (rows_nd gf c d) hr hr' (e.trans e'.symm)
theorem rows_from {fs : List (Int × Fct)} (gf : GFs fs) {c d : Int} {r : Row} (hr : r ∈ rowsF fs c d) : ∃ f, IsPass fs r.n f c d := by
  have : r.n ∈ (ordF c d fs).map (·.n) := by
    rw [← rows_ns]
    exact List.mem_map.mpr ⟨r, hr, rfl⟩
  obtain ⟨s, hs, e⟩ := List.mem_map.mp this
  obtain ⟨f, hm, ef, r1, r2, r3⟩ := ord_gf gf hs
  have g1 := gf.good _ hm
  rw [ef] at g1
  cases g1 with
  | pass a1 a2 a3 a4 a5 =>
    rw [← e]
    exact ⟨f, hm, s.m, s.g, s.h, ef, a4, a1⟩
theorem rowIn_of {fs : List (Int × Fct)} (gf : GFs fs) {c d : Int} {r : Row} (hr : r ∈ rowsF fs c d) : RowIn fs r.n r := by
  obtain ⟨f, hp⟩ := rows_from gf hr
  exact ⟨f, c, d, hp, hr, rfl⟩
theorem rowIn_ex {fs : List (Int × Fct)} {n c d : Int} {f : Fct} (h : IsPass fs n f c d) : ∃ r, RowIn fs n r ∧ r ∈ rowsF fs c d := by
  obtain ⟨x, hx, e⟩ := pass_walk h
  have hr : x.1 ∈ rowsF fs c d := List.mem_map.mpr ⟨x, hx, rfl⟩
  exact ⟨x.1, ⟨f, c, d, h, hr, e⟩, hr⟩
theorem rowIn_mem {fs : List (Int × Fct)} {x : Int} {r : Row} (h : RowIn fs x r) : x ∈ fs.map (·.1) := by
  obtain ⟨f, _, _, hp, _⟩ := h
  exact List.mem_map.mpr ⟨_, hp.1, rfl⟩
/-- the rows by their numbers -/
structure RowsD (K : PySem.W.Frag) (H : Hp) (fs : List (Int × Fct)) (kvs : List (Key × V)) : Prop where
  val : ∀ x v, valV kvs (Sum.inl x) = some v → ∃ r a, RowIn fs x r ∧ v = .ref a ∧ SqT K H a r.v
  all : ∀ n f c d, IsPass fs n f c d → (valV kvs (Sum.inl n)).isSome = true
  keys : ∃ ks : List Int, kvs.map (·.1) = ks.map Sum.inl ∧ ks.Nodup
theorem RowsD.tk {H H' : Hp} {fs : List (Int × Fct)} {kvs : List (Key × V)} (e : Tk K H H') (h : RowsD K H fs kvs) : RowsD K H' fs kvs :=
  ⟨fun x v hv => by
    obtain ⟨r, a, h1, h2, h3⟩ := h.val x v hv
    exact ⟨r, a, h1, h2, e _ _ h3⟩, h.all, h.keys⟩
theorem keys_put {kvs : List (Key × V)} {ks : List Int} (h : kvs.map (·.1) = ks.map Sum.inl) (nd : ks.Nodup) (n : Int) (v : V) : ∃ ks' : List Int, (putK kvs (Sum.inl n) v).map (·.1) = ks'.map Sum.inl ∧ ks'.Nodup ∧ ∀ x ∈ ks', x = n ∨ x ∈ ks := by
  unfold putK
  split
  · refine ⟨ks, ?_, nd, fun x hx => .inr hx⟩
    rw [List.map_map, ← h]
    refine List.map_congr_left fun kv _ => ?_
    show (if kv.1 = _ then (kv.1, v) else kv).1 = kv.1
    split <;> rfl
  · rename_i hno
    refine ⟨ks ++ [n], ?_, ?_, fun x hx => ?_⟩
    · rw [List.map_append, List.map_append, h]
      rfl
    · rw [List.nodup_append]
      refine ⟨nd, List.nodup_cons.mpr ⟨by simp, List.nodup_nil⟩, fun a ha b hb e => hno ?_⟩
      rw [List.mem_singleton.mp hb] at e
      have : (Sum.inl n : Key) ∈ kvs.map (·.1) := by
        rw [h]
        exact List.mem_map.mpr ⟨a, ha, by rw [e]⟩
      obtain ⟨kv, hk, e2⟩ := List.mem_map.mp this
      exact List.any_eq_true.mpr ⟨kv, hk, decide_eq_true e2⟩
    · rcases List.mem_append.mp hx with hx | hx
      · exact .inr hx
      · exact .inl (List.mem_singleton.mp hx)
def spRowsBy (K : PySem.W.Frag) : Sp := fun vs H Q _ => ∃ (l : Addr) (fs : List (Int × Fct)), vs = [.ref l] ∧ RL K H l fs ∧ GFs fs ∧ fs.length ≤ 200 ∧ ∀ p kvs H', H p = none → Ex H H' → H' p = some (.dK kvs) → RowsD K H' fs kvs → kvs.length ≤ fs.length → Q (.ref p) H'
theorem rows_len {fs : List (Int × Fct)} (c d : Int) : (rowsF fs c d).length ≤ fs.length := by
  unfold rowsF
  rw [List.length_map]
  exact walk_len

instance : DecidableEq Row := fun r s => decidable_of_iff (r.n = s.n ∧ r.w = s.w ∧ r.b = s.b ∧ r.h = s.h) ⟨fun q => by
  obtain ⟨n, w, b, h⟩ := r
  obtain ⟨n', w', b', h'⟩ := s
  obtain ⟨h1, h2, h3, h4⟩ := q
  dsimp only at h1 h2 h3 h4
  rw [h1, h2, h3, h4], fun q => by rw [q]; exact ⟨rfl, rfl, rfl, rfl⟩⟩
theorem rows_word {fs : List (Int × Fct)} {c d : Int} {r : Row} (h : r ∈ rowsF fs c d) : PyData.strOk r.w = true := by
  have key : ∀ (l : List Spot) (a : List Spot × List (Row × Bars)), (∀ x ∈ a.2, PyData.strOk x.1.w = true) → ∀ x ∈ (l.foldl (stepF fs c d) a).2, PyData.strOk x.1.w = true := by
    intro l
    induction l with
    | nil => exact fun a h => h
    | cons s l ih =>
      intro a h
      rw [List.foldl_cons]
      refine ih _ fun x hx => ?_
      unfold stepF at hx
      rcases List.mem_append.mp hx with hx | hx
      · exact h x hx
      · rw [List.mem_singleton.mp hx]
        dsimp only
        unfold rowF
        split
        · dsimp only; decide +kernel
        · split
          · dsimp only; decide +kernel
          · split <;> (dsimp only; decide +kernel)
  obtain ⟨x, hx, rfl⟩ := List.mem_map.mp h
  exact key _ _ (fun x h => by cases h) x hx
theorem eqv_row (r s : Row) : PyData.eqv r.d s.d = decide (r = s) := by
  obtain ⟨n, w, b, h⟩ := r
  obtain ⟨n', w', b', h'⟩ := s
  have e1 : ∀ x y : Int, PyData.eqv (.int x) (.int y) = decide (x = y) := fun x y => by
    unfold PyData.eqv
    by_cases h : x = y <;> simp [h]
  have e2 : PyData.eqv (optD b) (optD b') = decide (b = b') := by
    match b, b' with
    | none, none => rfl
    | none, some y => rfl
    | some x, none => rfl
    | some x, some y =>
      show PyData.eqv (.int x) (.int y) = _
      rw [e1]
      simp
  have e3 : PyData.eqv (.str w) (.str w') = decide (w = w') := by
    unfold PyData.eqv
    by_cases h : w = w' <;> simp [h]
  unfold Row.d
  dsimp only
  have e4 : PyData.eqv (.tuple [.int n, .str w, optD b, .int h]) (.tuple [.int n', .str w', optD b', .int h']) = (PyData.eqv (.int n) (.int n') && (PyData.eqv (.str w) (.str w') && (PyData.eqv (optD b) (optD b') && (PyData.eqv (.int h) (.int h') && true)))) := by
    simp only [PyData.eqv, PyData.eqvAll]
  rw [e4, e1, e1, e2, e3]
  by_cases h1 : n = n' <;> by_cases h2 : w = w' <;> by_cases h3 : b = b' <;> by_cases h4 : h = h' <;> simp [h1, h2, h3, h4]
theorem lay_row {r : Row} (h : PyData.strOk r.w = true) : PyData.canLay0 r.d = true ∧ PyData.depth r.d ≤ 1 := by
  obtain ⟨n, w, b, hh⟩ := r
  unfold Row.d
  dsimp only at h ⊢
  cases b with
  | none => exact ⟨by simp [PyData.canLay0, PyData.canLayAll0, optD, h], by simp [PyData.depth, PyData.depthAll, optD]⟩
  | some x => exact ⟨by simp [PyData.canLay0, PyData.canLayAll0, optD, h], by simp [PyData.depth, PyData.depthAll, optD]⟩
theorem shaped_row {r : Row} (h : PyData.strOk r.w = true) : SeqAt.shaped r.d = true := by
  obtain ⟨h1, h2⟩ := lay_row h
  unfold SeqAt.shaped
  rw [Bool.and_eq_true]
  exact ⟨h1, decide_eq_true (by omega)⟩
theorem optV_dp {H : Hp} (b : Option Int) : Dp K H (optV b) (optD b) := by
  cases b with
  | none => exact .non
  | some x => exact .int x
theorem row_dp {H : Hp} {a : Addr} {r : Row} (h : SqT K H a r.v) : Dp K H (.ref a) r.d := .tup h (.cons (.int _) (.cons (.str _) (.cons (optV_dp _) (.cons (.int _) .nil))))
theorem s_neRow {H : Hp} {Q : VK} {a b : Addr} {r s : Row} (ha : SqT K H a r.v) (hb : SqT K H b s.v) (o1 : PyData.strOk r.w = true) (o2 : PyData.strOk s.w = true) (k : Q (.bl (!decide (r = s))) H) : rNeD K (.ref a) (.ref b) H Q :=
  ⟨_, _, row_dp ha, row_dp hb, shaped_row o1, shaped_row o2, by rw [eqv_row]; exact k⟩
/-- the passings of both whose rows are unlike -/
def Turned (fs gs : List (Int × Fct)) (x : Int) : Prop := ∃ r r', RowIn fs x r ∧ RowIn gs x r' ∧ r ≠ r'
theorem s_lockE {t : TE} {σ : L2.St} {H : Hp} {Q : VK} {d : Addr} {u : HO} (h : H d = some u) (m : Mut (some u)) (k : ∀ od, t σ (upd H d (.frz od u)) fun v H' => H' d = some (.frz od u) ∧ Q v (upd H' d u)) : tLockE t σ H Q := ⟨d, u, h, m, k⟩
theorem s_iItems {td : TE} {σ : L2.St} {H : Hp} {R : It → Hp → Prop} (k : td σ H fun x H1 => ∃ d o kvs, x = .ref d ∧ H1 d = some (.frz o (.dK kvs)) ∧ R (Iti d o kvs) H1) : iItems td σ H R := k
theorem s_sorted {H : Hp} {Q : VK} {a : Addr} {ns : List Int} (h : SqL K H a (ns.map V.int)) (z : ns.length < 64) (k : ∀ (ns' : List Int) p H', ns'.Perm ns → ns'.Pairwise (· ≤ ·) → H p = none → Ex H H' → H' p = some (.lst (ns'.map V.int)) → Q (.ref p) H') : rSorted K [.ref a] H Q :=
  ⟨a, ns, rfl, h, z, fun ns' p h1 h2 h3 => k ns' p _ h1 h2 h3 (Ex.new h3) upd_same⟩
def spTurned (K : PySem.W.Frag) : Sp := fun vs H Q _ => ∃ (l l2 : Addr) (fs gs : List (Int × Fct)), vs = [.ref l, .ref l2] ∧ RL K H l fs ∧ GFs fs ∧ fs.length ≤ 200 ∧ RL K H l2 gs ∧ GFs gs ∧ gs.length ≤ 62 ∧
  ∀ p (ns : List Int) H', H p = none → Ex H H' → H' p = some (.lst (ns.map V.int)) → ns.Pairwise (· < ·) → (∀ x : Int, x ∈ ns ↔ Turned fs gs x) → ns.length ≤ fs.length → Q (.ref p) H'
theorem lt_of_le_nd : ∀ {l : List Int}, l.Nodup → l.Pairwise (· ≤ ·) → l.Pairwise (· < ·)
  | [], _, _ => List.Pairwise.nil
  | x :: l, nd, h => by
    obtain ⟨n1, n2⟩ := List.nodup_cons.mp nd
    obtain ⟨h1, h2⟩ := List.pairwise_cons.mp h
    refine List.pairwise_cons.mpr ⟨fun y hy => ?_, lt_of_le_nd n2 h2⟩
    have := h1 y hy
    have : x ≠ y := fun z => n1 (by rw [z]; exact hy)
    omega
theorem valV_mem {kvs : List (Key × V)} {ks : List Int} (h : kvs.map (·.1) = ks.map Sum.inl) (nd : ks.Nodup) {i : Nat} {k : Key} {v : V} (e : kvs[i]? = some (k, v)) : ∃ x : Int, k = Sum.inl x ∧ ks[i]? = some x ∧ valV kvs (Sum.inl x) = some v := by
  have e1 : (kvs.map (·.1))[i]? = some k := by rw [List.getElem?_map, e]; rfl
  rw [h, List.getElem?_map] at e1
  obtain ⟨x, ex, rfl⟩ := Option.map_eq_some_iff.mp e1
  refine ⟨x, rfl, ex, ?_⟩
  clear e1
  induction kvs generalizing ks i with
  | nil => simp at e
  | cons p kvs ih =>
    cases ks with
    | nil => simp at h
    | cons y ks =>
      rw [List.map_cons, List.map_cons] at h
      injection h with h1 h2
      obtain ⟨n1, n2⟩ := List.nodup_cons.mp nd
      cases i with
      | zero =>
        cases e
        cases ex
        exact valV_pos rfl
      | succ i =>
        have ex' : ks[i]? = some x := by simpa using ex
        rw [valV_neg (fun z => n1 ?_)]
        · exact ih h2 n2 (i := i) ex' (by simpa using e)
        · rw [h1] at z
          injection z with z
          rw [z]
          exact List.mem_of_getElem? ex'

theorem sc_l_far : FnScope ["_law_bag_here", "_law_number"] ["_law_bag_here"] (defScope s_l_far) :=
  ⟨rfl, rfl, rfl, by decide +kernel, rfl, by decide +kernel, by decide +kernel⟩
theorem ok_l_far (T : Tx P K mg w) : FnOk P w K mg base CX0 2 T.f_l_far T.d_l_far ["_law_bag_here"] (spInt (-(2 ^ 70)) (2 ^ 70)) := by
  refine T.F_l_far.ok sc_l_far (fun vs H Q E h => ?_) (fun cdv A outer s H vs Q E hr h => ?_)
  · obtain ⟨b, c, rfl, _⟩ := h
    rfl
  · obtain ⟨b, c, rfl, B, k⟩ := h
    refine ⟨_, (pss_cons (ps_set (i := 1) sc_l_far.nd rfl (Or.inl rfl) (pe_call (ok_l_pull T) (hr.mono (by decide)) rfl T.g_l_pull T.F_l_pull.kp T.b_l_pull .nil pass0 (pa_cons (pv 0) (pa_cons (pe_op op_pow pe_int pe_int) pa_nil)))) (pss_cons (ps_if (pt_cmpR op_eq (pe_call (ok_l_pull T) (hr.mono (by decide)) rfl T.g_l_pull T.F_l_pull.kp T.b_l_pull .nil pass0 (pa_cons (pv 0) (pa_cons pe_int pa_nil))) pe_int (nomark _)) (pss_one (ps_set (i := 1) sc_l_far.nd rfl (Or.inl rfl) (pe_op op_add (pv 1) (pe_op op_pow pe_int pe_int)))) pss_nil) (pss_cons (ps_if (pt_cmpR op_eq (pe_call (ok_l_pull T) (hr.mono (by decide)) rfl T.g_l_pull T.F_l_pull.kp T.b_l_pull .nil pass0 (pa_cons (pv 0) (pa_cons pe_int pa_nil))) pe_int (nomark _)) (pss_one (ps_ret (pe_op op_sub (pe_un un_neg pe_int) (pv 1)))) pss_nil) (pss_one (ps_ret (pv 1)))))), ?_⟩
    refine at_start (ρ' := [some _, none]) rfl ?_
    walk_at "z0"
    walk_at "z"
    rename_i z H1 z0 z1 B1 f1 y H2 y0 y1 B2 f2
    rw [show (10 : Int) ^ Int.toNat 9 = 1000000000 from by decide +kernel] at z1
    refine ite_dec (fun h1 => ?_) (fun h1 => ?_)
    · walk_at "z"
      rename_i x H3 x0 x1 B3 f3
      refine ite_dec (fun h2 => ?_) (fun h2 => ?_)
      · walk_at "z"
        rw [show (10 : Int) ^ Int.toNat 20 = 100000000000000000000 from by decide +kernel]
        exact k _ _ (by omega) (by omega) (by walk_at "zbag") (by walk_at "zfr")
      · walk_at "z"
        rw [show (10 : Int) ^ Int.toNat 20 = 100000000000000000000 from by decide +kernel]
        exact k _ _ (by omega) (by omega) (by walk_at "zbag") (by walk_at "zfr")
    · walk_at "z"
      rename_i x H3 x0 x1 B3 f3
      refine ite_dec (fun h2 => ?_) (fun h2 => ?_)
      · walk_at "z"
        exact k _ _ (by omega) (by omega) (by walk_at "zbag") (by walk_at "zfr")
      · walk_at "z"
        exact k _ _ (by omega) (by omega) (by walk_at "zbag") (by walk_at "zfr")

/-! facts changed -/
theorem cut_take {xs : List V} {n : Nat} : cutV xs none (some (n : Int)) = xs.take n := by
  unfold cutV
  rw [HT.sIx_none, HT.sIx_nat, List.drop_zero, Nat.sub_zero]
  by_cases h : n ≤ xs.length
  · rw [Nat.min_eq_left h]
  · rw [Nat.min_eq_right (by omega), List.take_of_length_le (Nat.le_refl _), List.take_of_length_le (by omega)]
theorem cut_drop {xs : List V} {n : Nat} : cutV xs (some (n : Int)) none = xs.drop n := by
  unfold cutV
  rw [HT.sIx_none, HT.sIx_nat]
  by_cases h : n ≤ xs.length
  · rw [Nat.min_eq_left h]
    exact List.take_of_length_le (by rw [List.length_drop]; exact Nat.le_refl _)
  · rw [Nat.min_eq_right (by omega), List.drop_eq_nil_of_le (by omega : xs.length ≤ n), Nat.sub_self, List.take_zero]
theorem rfs_take {H : Hp} : ∀ {vs : List V} {fs : List (Int × Fct)} (n : Nat), RFs K H vs fs → RFs K H (vs.take n) (fs.take n)
  | _, _, 0, _ => by rw [List.take_zero, List.take_zero]; exact .nil
  | _, _, n + 1, .nil => .nil
  | _, _, n + 1, .cons a b r => .cons a b (rfs_take n r)
theorem rfs_drop {H : Hp} : ∀ {vs : List V} {fs : List (Int × Fct)} (n : Nat), RFs K H vs fs → RFs K H (vs.drop n) (fs.drop n)
  | _, _, 0, r => r
  | _, _, n + 1, .nil => .nil
  | _, _, n + 1, .cons a b r => rfs_drop n r
theorem rfs_app {H : Hp} : ∀ {vs vs' : List V} {fs fs' : List (Int × Fct)}, RFs K H vs fs → RFs K H vs' fs' → RFs K H (vs ++ vs') (fs ++ fs')
  | _, _, _, _, .nil, r => r
  | _, _, _, _, .cons a b r, r' => .cons a b (rfs_app r r')
theorem rfs_set {H : Hp} {p : Addr} {n : Int} {v : V} {f : Fct} (h1 : SqT K H p [.int n, v]) (h2 : RF K H v f) : ∀ {vs : List V} {fs : List (Int × Fct)} (i : Nat), RFs K H vs fs → RFs K H (vs.set i (.ref p)) (fs.set i (n, f))
  | _, _, _, .nil => by simp only [List.set_nil]; exact .nil
  | _, _, 0, .cons a b r => .cons h1 h2 r
  | _, _, i + 1, .cons a b r => .cons a b (rfs_set h1 h2 i r)
theorem gfs_sub {fs gs : List (Int × Fct)} (h : GFs fs) (s : gs.Sublist fs) : GFs gs := ⟨fun p hp => h.good p (s.subset hp), (h.rise.sublist (s.map _)), fun p hp => h.one p (s.subset hp)⟩
theorem set_map_fst {fs : List (Int × Fct)} {i : Nat} {n : Int} {f g : Fct} (e : fs[i]? = some (n, g)) : (fs.set i (n, f)).map (·.1) = fs.map (·.1) := by
  rw [List.map_set]
  refine List.ext_getElem? fun j => ?_
  rw [List.getElem?_set]
  split
  · rename_i h
    subst h
    rw [List.getElem?_map, e]
    obtain ⟨h1, _⟩ := List.getElem?_eq_some_iff.mp e
    rw [if_pos (by rw [List.length_map]; exact h1)]
    rfl
  · rfl
theorem gfs_set {fs : List (Int × Fct)} {i : Nat} {n : Int} {f g : Fct} (h : GFs fs) (e : fs[i]? = some (n, g)) (gf : GF f) : GFs (fs.set i (n, f)) := by
  refine ⟨fun p hp => ?_, by rw [set_map_fst e]; exact h.rise, fun p hp => ?_⟩
  · rcases List.mem_or_eq_of_mem_set hp with hp | rfl
    · exact h.good p hp
    · exact gf
  · rcases List.mem_or_eq_of_mem_set hp with hp | rfl
    · exact h.one p hp
    · exact h.one (n, g) (List.mem_of_getElem? e)
theorem gfs_snoc {fs : List (Int × Fct)} {n : Int} {f : Fct} (h : GFs fs) (hn : 1 ≤ n) (hl : ∀ p ∈ fs, p.1 < n) (gf : GF f) : GFs (fs ++ [(n, f)]) := by
  refine ⟨fun p hp => ?_, ?_, fun p hp => ?_⟩
  · rcases List.mem_append.mp hp with hp | hp
    · exact h.good p hp
    · rw [List.mem_singleton.mp hp]
      exact gf
  · rw [List.map_append]
    refine List.pairwise_append.mpr ⟨h.rise, List.pairwise_singleton _ _, fun x hx y hy => ?_⟩
    obtain ⟨p, hp, rfl⟩ := List.mem_map.mp hx
    rw [List.map_cons, List.map_nil, List.mem_singleton] at hy
    subst hy
    exact hl p hp
  · rcases List.mem_append.mp hp with hp | hp
    · exact h.one p hp
    · rw [List.mem_singleton.mp hp]
      exact hn
theorem s_maxL {H : Hp} {Q : VK} {p : Addr} {ns : List Int} (h : SqL K H p (ns.map V.int)) (hn : 0 < ns.length) (k : ∀ m, m ∈ ns → (∀ y, y ∈ ns → y ≤ m) → Q (.int m) H) : rMax K [.ref p] H Q := ⟨p, ns, rfl, h, hn, k⟩
theorem s_catL {H : Hp} {Q : VK} {l b : Addr} {xs zs : List V} (h1 : H l = some (.lst xs)) (h2 : H b = some (.lst zs)) (hz : xs.length + zs.length ≤ sizeLine) (k : NewO (.lst (xs ++ zs)) H Q) : rCat (.ref l) (.ref b) H Q := ⟨l, b, xs, zs, rfl, rfl, h1, h2, hz, k⟩

/-! the law's own walk -/
def spAsked (K : PySem.W.Frag) : Sp := fun vs H Q _ => ∃ (l : Addr) (g d h : Int) (fs : List (Int × Fct)), vs = [.ref l, .int g, .int d, .int h] ∧ RL K H l fs ∧ GFs fs ∧ R 1 8 h ∧ ∀ H', Ex H H' → Q (.int (fareF fs g h d)) H'
theorem fds_ints4 {H : Hp} {vs : List V} {p q r s : Int} (h : FDs K H vs [.i p, .i q, .i r, .i s]) : vs = [.int p, .int q, .int r, .int s] := by
  repeat (first | (cases ‹FDs _ _ _ (_ :: _)›) | (cases ‹FD _ _ _ _›))
  cases ‹FDs _ _ _ []›
  rfl
theorem fds_ints3 {H : Hp} {vs : List V} {p q r : Int} (h : FDs K H vs [.i p, .i q, .i r]) : vs = [.int p, .int q, .int r] := by
  repeat (first | (cases ‹FDs _ _ _ (_ :: _)›) | (cases ‹FD _ _ _ _›))
  cases ‹FDs _ _ _ []›
  rfl
theorem fds_ints2 {H : Hp} {vs : List V} {p q : Int} (h : FDs K H vs [.i p, .i q]) : vs = [.int p, .int q] := by
  repeat (first | (cases ‹FDs _ _ _ (_ :: _)›) | (cases ‹FD _ _ _ _›))
  cases ‹FDs _ _ _ []›
  rfl
theorem sc_l_asked_toll : FnScope ["_law_facts_here", "_law_gate_here", "_law_day_here", "_law_horses"] ["_law_facts_here", "_law_gate_here", "_law_day_here", "_law_horses"] (defScope s_l_asked_toll) :=
  ⟨rfl, rfl, rfl, by decide +kernel, rfl, by decide +kernel, by decide +kernel⟩
theorem ok_l_asked_toll (T : Tx P K mg w) : FnOk P w K mg base CX0 2 T.f_l_asked_toll T.d_l_asked_toll ["_law_facts_here", "_law_gate_here", "_law_day_here", "_law_horses"] (spAsked K) := by
  refine T.F_l_asked_toll.ok sc_l_asked_toll (fun vs H Q E h => ?_) (fun cdv A outer s H vs Q E hr h => ?_)
  · obtain ⟨l, g, d, h, fs, rfl, _⟩ := h
    rfl
  · obtain ⟨l, g, d, h, fs, rfl, rl, gf, hh, k⟩ := h
    obtain ⟨h0, h1⟩ := hh
    refine ⟨_, (pss_one (ps_ret (pe_op op_mul (pe_op op_mul (pe_call (ok_l_hold T) (hr.mono (by decide)) rfl T.g_l_hold T.F_l_hold.kp T.b_l_hold .nil pass0 (pa_cons (pv 0) (pa_cons pe_str (pa_cons (pv 1) (pa_cons (pv 2) (pa_cons pe_int pa_nil)))))) (pv 3)) (pe_ix (r := rIxL K) ix_list (pe_lst (pa_cons pe_int (pa_cons pe_int pa_nil))) (pe_callTy cz_int1 (by rfl) T.z_int (by decide +kernel) (pa_cons (pe_cmpR op_eq (pe_op op_mod (pv 2) pe_int) pe_int (nomark _)) pa_nil)) (fun _ _ => rfl))))), ?_⟩
    refine at_start (ρ' := [some _, some _, some _, some _]) rfl ?_
    walk_at "z0"
    walk_at "z"
    refine use_hold rl gf (.inl rfl) (.i 0) fun v H1 e1 hv => ?_
    obtain ⟨n, en⟩ := hold_int (g := g) (d := d) gf (.inl rfl) ne_toll_board
    rw [en] at hv
    cases hv
    have ef : fareF fs g h d = if d % 7 = 6 then n * h * 2 else n * h := by
      unfold fareF tollF
      rw [en]
      rfl
    rw [ef] at k
    walk_at "z"
    rename_i t H2 _ e2 ht
    by_cases c : d % 7 = 6
    · rw [if_pos c] at k
      rw [decide_eq_true c]
      refine s_ixL (v := .int 2) (SqL.of ht) rfl ?_
      walk_at "z"
      exact k _ (e1.trans e2)
    · rw [if_neg c] at k
      rw [decide_eq_false c]
      refine s_ixL (v := .int 1) (SqL.of ht) rfl ?_
      walk_at "z"
      rw [Int.mul_one]
      exact k _ (e1.trans e2)
theorem gf_folkW {f : Fct} (h : GF f) (e : f.w = "folk") : ∃ c a b, f = ⟨"folk", [.i c, .i a, .i b]⟩ := by
  cases h with
  | folk => exact ⟨_, _, _, rfl⟩
  | _ =>
    dsimp only at e
    exact absurd e (by decide +kernel)
theorem gf_barg {f : Fct} (h : GF f) (e : f.w = "bargain") : ∃ g c a b, f = ⟨"bargain", [.i g, .i c, .i a, .i b]⟩ := by
  cases h with
  | bargain => exact ⟨_, _, _, _, rfl⟩
  | _ =>
    dsimp only at e
    exact absurd e (by decide +kernel)
theorem folkF_no {f : Fct} (e : f.w ≠ "folk") (c d n : Int) : folkF c d (n, f) = false := by
  unfold folkF
  split
  · exact decide_eq_false fun z => e z.1
  · rfl
theorem bargF_no {f : Fct} (e : f.w ≠ "bargain") (g c d n : Int) : bargF g c d (n, f) = false := by
  unfold bargF
  split
  · exact decide_eq_false fun z => e z.1
  · rfl
theorem any_no {α : Type} {f : α → Bool} {l : List α} (h : ∀ (j : Nat) x, l[j]? = some x → f x = false) : l.any f = false := by
  rw [List.any_eq_false]
  intro x hx
  obtain ⟨j, hj⟩ := List.getElem?_of_mem hx
  rw [h j x hj]
  decide
def spLFree (K : PySem.W.Frag) : Sp := fun vs H Q _ => ∃ (l : Addr) (c g d : Int) (fs : List (Int × Fct)), vs = [.ref l, .int c, .int g, .int d] ∧ RL K H l fs ∧ GFs fs ∧ Q (.str (freeF fs c g d)) H
theorem sc_l_free : FnScope ["_law_facts_here", "_law_carriage", "_law_gate_here", "_law_day_here", "_law_number", "_law_fact_here"] ["_law_facts_here", "_law_carriage", "_law_gate_here", "_law_day_here"] (defScope s_l_free) :=
  ⟨rfl, rfl, rfl, by decide +kernel, rfl, by decide +kernel, by decide +kernel⟩
theorem ok_l_free (T : Tx P K mg w) : FnOk P w K mg base CX0 1 T.f_l_free T.d_l_free ["_law_facts_here", "_law_carriage", "_law_gate_here", "_law_day_here"] (spLFree K) := by
  refine T.F_l_free.ok sc_l_free (fun vs H Q E h => ?_) (fun cdv A outer s H vs Q E hr h => ?_)
  · obtain ⟨l, c, g, d, fs, rfl, _⟩ := h
    rfl
  · obtain ⟨l, c, g, d, fs, rfl, ⟨vs, hl, hf⟩, gf, k⟩ := h
    refine ⟨_, (pss_cons (ps_for PassesOwn.never rfl (pi_list (pv 0)) (pg_tup (by rfl) (pgs_cons (pg_name (i := 4) sc_l_free.nd rfl (Or.inl rfl)) (pgs_cons (pg_name (i := 5) sc_l_free.nd rfl (Or.inl rfl)) pgs_nil))) (pss_one (ps_if (PW.pt (pw_and (pt_cmpR op_eq (pe_ix (r := rIxT K) ix_tup (pv 5) pe_int (fun _ _ => rfl)) pe_str (nomark _)) (pw_and (pt_cmpR op_eq (pe_ix (r := rIxT K) ix_tup (pv 5) pe_int (fun _ _ => rfl)) (pv 1) (nomark _)) (pw_and1 (pt_chain op_le op_le (pe_ix (r := rIxT K) ix_tup (pv 5) pe_int (fun _ _ => rfl)) (pv 3) (pe_ix (r := rIxT K) ix_tup (pv 5) pe_int (fun _ _ => rfl))))))) (pss_one (ps_ret pe_str)) pss_nil))) (pss_cons (ps_for PassesOwn.never rfl (pi_list (pv 0)) (pg_tup (by rfl) (pgs_cons (pg_name (i := 4) sc_l_free.nd rfl (Or.inl rfl)) (pgs_cons (pg_name (i := 5) sc_l_free.nd rfl (Or.inl rfl)) pgs_nil))) (pss_one (ps_if (PW.pt (pw_and (pt_cmpR op_eq (pe_ix (r := rIxT K) ix_tup (pv 5) pe_int (fun _ _ => rfl)) pe_str (nomark _)) (pw_and (pt_cmpR op_eq (pe_ix (r := rIxT K) ix_tup (pv 5) pe_int (fun _ _ => rfl)) (pv 2) (nomark _)) (pw_and (pt_cmpR op_eq (pe_ix (r := rIxT K) ix_tup (pv 5) pe_int (fun _ _ => rfl)) (pv 1) (nomark _)) (pw_and1 (pt_chain op_le op_le (pe_ix (r := rIxT K) ix_tup (pv 5) pe_int (fun _ _ => rfl)) (pv 3) (pe_ix (r := rIxT K) ix_tup (pv 5) pe_int (fun _ _ => rfl)))))))) (pss_one (ps_ret pe_str)) pss_nil))) (pss_one (ps_ret pe_str)))), ?_⟩
    refine at_start (ρ' := [some _, some _, some _, some _, none, none]) rfl ?_
    walk_at "z0"
    walk_at "z"
    unfold freeF at k
    refine l_list vs (fun i σ H' => ∃ v4 v5, σ = [some (.ref l), some (.int c), some (.int g), some (.int d), v4, v5] ∧ H' = H ∧ ∀ j x, j < i → fs[j]? = some x → folkF c d x = false) ⟨_, _, rfl, rfl, fun j x hj => by omega⟩
      (fun i σ H' hi h => ?_) (fun i x σ H2 hi h => ?_) (fun σ H2 h => ?_)
    · obtain ⟨_, _, rfl, rfl, _⟩ := h
      exact hl
    · obtain ⟨v4, v5, rfl, rfl, hno⟩ := h
      obtain ⟨q, n, u, f, hfi, rfl, hq, a, zs, rfl, ha, hu⟩ := rfs_get hf hi
      have g1 := gf.good _ (List.mem_of_getElem? hfi)
      have nxt : folkF c d (n, f) = false → ∀ j x, j < i + 1 → fs[j]? = some x → folkF c d x = false := fun h j x hj hx => by
        rcases Nat.lt_succ_iff_lt_or_eq.mp hj with q1 | q1
        · exact hno j x q1 hx
        · subst q1
          rw [hfi] at hx
          cases hx
          exact h
      walk_at "z"
      refine s_ixT ha (at0 _ _) ?_
      walk_at "z"
      refine ite_dec (fun h1 => ?_) (fun h1 => ?_)
      · obtain ⟨c', x, y, rfl⟩ := gf_folkW g1 h1
        have hu := fds_ints3 hu
        subst hu
        walk_at "z"
        refine ite_dec (fun h2 => ?_) (fun h2 => ?_)
        · walk_at "z"
          refine ite_dec (fun h3 => ?_) (fun h3 => ?_)
          · walk_at "z"
            refine ite_dec (fun h4 => ?_) (fun h4 => ?_)
            · walk_at "z"
              have ea : fs.any (folkF c d) = true := List.any_eq_true.mpr ⟨_, List.mem_of_getElem? hfi, decide_eq_true ⟨rfl, h2, h3, h4⟩⟩
              rw [if_pos ea] at k
              exact k
            · walk_at "z"
              exact ⟨_, _, rfl, rfl, nxt (decide_eq_false fun z => h4 z.2.2.2)⟩
          · walk_at "z"
            exact ⟨_, _, rfl, rfl, nxt (decide_eq_false fun z => h3 z.2.2.1)⟩
        · walk_at "z"
          exact ⟨_, _, rfl, rfl, nxt (decide_eq_false fun z => h2 z.2.1)⟩
      · walk_at "z"
        exact ⟨_, _, rfl, rfl, nxt (folkF_no h1 _ _ _)⟩
    · obtain ⟨v4, v5, rfl, rfl, hno⟩ := h
      have ea : fs.any (folkF c d) = false := any_no fun j x hx => hno j x (by rw [rfs_len hf]; exact (List.getElem?_eq_some_iff.mp hx).1) hx
      rw [if_neg (by rw [ea]; decide)] at k
      walk_at "z"
      refine l_list vs (fun i σ H' => ∃ v4 v5, σ = [some (.ref l), some (.int c), some (.int g), some (.int d), v4, v5] ∧ H' = H2 ∧ ∀ j x, j < i → fs[j]? = some x → bargF g c d x = false) ⟨_, _, rfl, rfl, fun j x hj => by omega⟩
        (fun i σ H' hi h => ?_) (fun i x σ H3 hi h => ?_) (fun σ H3 h => ?_)
      · obtain ⟨_, _, rfl, rfl, _⟩ := h
        exact hl
      · obtain ⟨v4, v5, rfl, rfl, hno⟩ := h
        obtain ⟨q, n, u, f, hfi, rfl, hq, a, zs, rfl, ha, hu⟩ := rfs_get hf hi
        have g1 := gf.good _ (List.mem_of_getElem? hfi)
        have nxt : bargF g c d (n, f) = false → ∀ j x, j < i + 1 → fs[j]? = some x → bargF g c d x = false := fun h j x hj hx => by
          rcases Nat.lt_succ_iff_lt_or_eq.mp hj with q1 | q1
          · exact hno j x q1 hx
          · subst q1
            rw [hfi] at hx
            cases hx
            exact h
        walk_at "z"
        refine s_ixT ha (at0 _ _) ?_
        walk_at "z"
        refine ite_dec (fun h1 => ?_) (fun h1 => ?_)
        · obtain ⟨g', c', x, y, rfl⟩ := gf_barg g1 h1
          have hu := fds_ints4 hu
          subst hu
          walk_at "z"
          refine ite_dec (fun h2 => ?_) (fun h2 => ?_)
          · walk_at "z"
            refine ite_dec (fun h3 => ?_) (fun h3 => ?_)
            · walk_at "z"
              refine ite_dec (fun h4 => ?_) (fun h4 => ?_)
              · walk_at "z"
                refine ite_dec (fun h5 => ?_) (fun h5 => ?_)
                · walk_at "z"
                  have ea : fs.any (bargF g c d) = true := List.any_eq_true.mpr ⟨_, List.mem_of_getElem? hfi, decide_eq_true ⟨rfl, h2, h3, h4, h5⟩⟩
                  rw [if_pos ea] at k
                  exact k
                · walk_at "z"
                  exact ⟨_, _, rfl, rfl, nxt (decide_eq_false fun z => h5 z.2.2.2.2)⟩
              · walk_at "z"
                exact ⟨_, _, rfl, rfl, nxt (decide_eq_false fun z => h4 z.2.2.2.1)⟩
            · walk_at "z"
              exact ⟨_, _, rfl, rfl, nxt (decide_eq_false fun z => h3 z.2.2.1)⟩
          · walk_at "z"
            exact ⟨_, _, rfl, rfl, nxt (decide_eq_false fun z => h2 z.2.1)⟩
        · walk_at "z"
          exact ⟨_, _, rfl, rfl, nxt (bargF_no h1 _ _ _ _)⟩
      · obtain ⟨v4, v5, rfl, rfl, hno⟩ := h
        have ea : fs.any (bargF g c d) = false := any_no fun j x hx => hno j x (by rw [rfs_len hf]; exact (List.getElem?_eq_some_iff.mp hx).1) hx
        rw [if_neg (by rw [ea]; decide)] at k
        walk_at "z"
        exact k

theorem lostM_any {fs : List (Int × Fct)} {n m : Int} : lostB fs n m = true ↔ ∃ k, k ∈ fs.filterMap (lostF n) ∧ k ≤ m := by
  unfold lostB
  rw [List.any_eq_true]
  exact ⟨fun ⟨k, h1, h2⟩ => ⟨k, h1, of_decide_eq_true h2⟩, fun ⟨k, h1, h2⟩ => ⟨k, h1, decide_eq_true h2⟩⟩
theorem s_minL {H : Hp} {Q : VK} {p : Addr} {ns : List Int} (h : SqL K H p (ns.map V.int)) (hn : 0 < ns.length) (k : ∀ m, m ∈ ns → (∀ y, y ∈ ns → m ≤ y) → Q (.int m) H) : rMin K [.ref p] H Q := ⟨p, ns, rfl, h, hn, k⟩
def spLBar (K : PySem.W.Frag) : Sp := fun vs H Q _ => ∃ (l : Addr) (tv : V) (d : Int) (t s : Spot) (fs : List (Int × Fct)), vs = [.ref l, tv, .int d, .int s.m, .int s.g, .int s.h] ∧ RL K H l fs ∧ GFs fs ∧ fs.length ≤ 1000 ∧ R 0 7 t.g ∧ R 0 1439 s.m ∧ TIs K H tv [t.n, t.g, t.h] ∧ ∀ H', Ex H H' → Q (.str (barF fs d t s)) H'
theorem sc_l_bar : FnScope ["_law_facts_here", "_law_ticket", "_law_day_here", "_law_minute", "_law_gate_here", "_law_horses", "_law_number", "_law_sold", "_law_team", "_law_gone", "_law_other", "_law_fact_here"] ["_law_facts_here", "_law_ticket", "_law_day_here", "_law_minute", "_law_gate_here", "_law_horses"] (defScope s_l_bar) :=
  ⟨rfl, rfl, rfl, by decide +kernel, rfl, by decide +kernel, by decide +kernel⟩
theorem ok_l_bar (T : Tx P K mg w) : FnOk P w K mg base CX0 3 T.f_l_bar T.d_l_bar ["_law_facts_here", "_law_ticket", "_law_day_here", "_law_minute", "_law_gate_here", "_law_horses"] (spLBar K) := by
  refine T.F_l_bar.ok sc_l_bar (fun vs H Q E h => ?_) (fun cdv A outer s H vs Q E hr h => ?_)
  · obtain ⟨l, tv, d, t, s, fs, rfl, _⟩ := h
    rfl
  · obtain ⟨l, tv, d, t, p, fs, rfl, rl, gf, hz, htg, hpm, ⟨ta, rfl, hta⟩, k⟩ := h
    replace hta : SqT K H ta [.int t.n, .int t.g, .int t.h] := hta
    obtain ⟨vs, hl, hf⟩ := id rl
    have hlen := rfs_len hf
    refine ⟨_, (pss_cons (ps_asg (pv 1) (pg_tup (by rfl) (pgs_cons (pg_name (i := 6) sc_l_bar.nd rfl (Or.inr rfl)) (pgs_cons (pg_name (i := 7) sc_l_bar.nd rfl (Or.inl rfl)) (pgs_cons (pg_name (i := 8) sc_l_bar.nd rfl (Or.inl rfl)) pgs_nil))))) (pss_cons (ps_if (pt_cmpR (r := rIn K true) op_notIn_seq (pv 4) (pe_call (ok_l_clears T) (hr.mono (by decide)) rfl T.g_l_clears T.F_l_clears.kp T.b_l_clears .nil pass0 (pa_cons (pv 0) (pa_cons (pv 7) (pa_cons (pv 2) pa_nil)))) (by rfl)) (pss_one (ps_ret pe_str)) pss_nil) (pss_cons (ps_if (pt_cmpR op_lt (pv 8) (pv 5) (nomark _)) (pss_one (ps_ret pe_str)) pss_nil) (pss_cons (ps_setLc (i := 9) (own := [("_law_other", 10), ("_law_fact_here", 11)]) (by rfl) sc_l_bar.nd rfl rfl (sw_true rfl rfl rfl (by decide +kernel)) (pi_list (pv 0)) (blkOk_by (own := [("_law_other", 10), ("_law_fact_here", 11)]) (N := ["_law_facts_here", "_law_ticket", "_law_day_here", "_law_minute", "_law_gate_here", "_law_horses", "_law_number", "_law_sold", "_law_team", "_law_gone", "_law_other", "_law_fact_here"]) (sc := defScope s_l_bar) (by decide +kernel)) (fun _ _ _ _ _ => (pg_tupK (K := K) 2 rfl (by rfl) (pgs_cons (pg_name (i := 10) sc_l_bar.nd rfl (Or.inl rfl)) (pgs_cons (pg_name (i := 11) sc_l_bar.nd rfl (Or.inl rfl)) pgs_nil)))) (fun _ _ _ _ _ => (pts_one (PW.pt (pw_and (pt_cmpR op_eq (pe_ix (r := rIxT K) ix_tup (pv 11) pe_int (fun _ _ => rfl)) pe_str (nomark _)) (pw_and1 (pt_cmpR op_eq (pe_ix (r := rIxT K) ix_tup (pv 11) pe_int (fun _ _ => rfl)) (pv 6) (nomark _))))))) (fun _ _ _ _ _ => (pe_ix (r := rIxT K) ix_tup (pv 11) pe_int (fun _ _ => rfl)))) (pss_one (ps_ret (pe_ifExp (pt_cmpR op_le (pe_callB (r := rMin K) (cr_min rfl) (by rfl) T.z_min (by decide +kernel) (pa_cons (pe_op op_cat (pv 9) (pe_lst (pa_cons pe_int pa_nil))) pa_nil)) (pv 3) (nomark _)) pe_str pe_str))))))), ?_⟩
    refine at_start (ρ' := [some _, some _, some _, some _, some _, some _, none, none, none, none, none, none]) rfl ?_
    walk_at "z0"
    walk_at "z"
    refine ⟨l, _, d, fs, rfl, rl, gf, htg, fun q ns H1 e1 hb hq => ?_⟩
    replace hq : H1 q = some (.lst (ns.map V.int)) := hq
    have ei := inBrd_eq (x := p.g) gf hb
    unfold barF at k
    rw [ei] at k
    refine s_rNotInSeq (.inl (SqL.of hq)) rfl (flat_ints ns) ?_
    rw [inV_ints]
    walk_at "z"
    refine ite_ndec (fun h1 => ?_) (fun h1 => ?_)
    · walk_at "z"
      rw [decide_eq_false h1, if_pos rfl] at k
      exact k _ e1
    · rw [decide_eq_true h1, if_neg (by decide)] at k
      walk_at "z"
      refine ite_dec (fun h2 => ?_) (fun h2 => ?_)
      · walk_at "z"
        rw [if_pos h2] at k
        exact k _ e1
      · rw [if_neg h2] at k
        walk_at "z"
        refine c_list vs (e1.sqL hl) (fun D H' => H1 D = none ∧ Ex H1 H') (fun D i acc H' => acc = ((fs.take i).filterMap (lostF t.n)).map V.int) (fun D H' n e _ => ⟨⟨n, e⟩, rfl⟩) (fun D H' Iv => (e1.trans Iv.2).sqL hl) (fun D i acc H2 x hx Iv hD hn r => ?_) (fun D acc H2 Iv hD hn r => ?_)
        · obtain ⟨nD, e2⟩ := Iv
          have e02 := e1.trans e2
          obtain ⟨y, n, u, f, hfi, rfl, hy, a, zs, rfl, ha, hu⟩ := rfs_get hf hx
          replace hy := e02.sqT hy
          replace ha := e02.sqT ha
          have g1 := gf.good _ (List.mem_of_getElem? hfi)
          have hi : i < vs.length := (List.getElem?_eq_some_iff.mp hx).1
          have nx : (fs.take (i + 1)).filterMap (lostF t.n) = (fs.take i).filterMap (lostF t.n) ++ (lostF t.n (n, f)).toList := filterMap_take hfi
          walk_at "z"
          refine ⟨rfl, ?_⟩
          walk_at "z"
          refine s_ixT ha (at0 _ _) ?_
          walk_at "z"
          refine ite_dec (fun h3 => ?_) (fun h3 => ?_)
          · obtain ⟨j, m, rfl⟩ := gf_lost g1 h3
            have hu := fds_ints2 hu
            subst hu
            walk_at "z"
            refine ite_dec (fun h4 => ?_) (fun h4 => ?_)
            · walk_at "z"
              refine c_put hD ⟨hn, by omega⟩ fun H3 f3 _ => ⟨⟨nD, e2.fr2 nD f3⟩, ?_⟩
              rw [nx, r]
              unfold lostF
              dsimp only
              rw [if_pos ⟨rfl, h4⟩, List.map_append]
              rfl
            · walk_at "z"
              refine c_skip hD hn ⟨nD, e2⟩ ?_
              rw [nx, r]
              unfold lostF
              dsimp only
              rw [if_neg (fun z => h4 z.2), Option.toList_none, List.append_nil]
          · walk_at "z"
            refine c_skip hD hn ⟨nD, e2⟩ ?_
            rw [nx, r, lostF_no h3, Option.toList_none, List.append_nil]
        · obtain ⟨nD, e2⟩ := Iv
          rw [List.take_of_length_le (by rw [hlen]; exact Nat.le_refl _)] at r
          subst r
          walk_at "z"
          rename_i b H3 _ e3 hb3
          refine s_catL (e3 _ _ hD) hb3 (sz (by simp at hn ⊢; omega)) ?_
          refine s_new fun c4 H4 _ e4 hc4 => ?_
          walk_at "z"
          refine s_minL (ns := fs.filterMap (lostF t.n) ++ [1440]) (SqL.of (by rw [List.map_append]; exact hc4)) (by simp) fun m hm hmin => ?_
          have e04 : Ex H H4 := ((e1.trans e2).trans e3).trans e4
          have eq : lostB fs t.n p.m = decide (m ≤ p.m) := by
            rw [Bool.eq_iff_iff, lostM_any, decide_eq_true_iff]
            constructor
            · rintro ⟨k', h3, h4⟩
              have := hmin k' (List.mem_append_left _ h3)
              omega
            · intro h3
              rcases List.mem_append.mp hm with h4 | h4
              · exact ⟨m, h4, h3⟩
              · rw [List.mem_singleton.mp h4] at h3
                have := hpm.2
                omega
          rw [eq] at k
          walk_at "z"
          refine ite_dec (fun h3 => ?_) (fun h3 => ?_)
          · walk_at "z"
            rw [if_pos (decide_eq_true h3)] at k
            exact k _ e04
          · walk_at "z"
            rw [if_neg (by rw [decide_eq_false h3]; decide)] at k
            exact k _ e04

def PairAt (K : PySem.W.Frag) (H : Hp) (v : V) (x : Int × Str) : Prop := ∃ a, v = .ref a ∧ SqT K H a [.int x.1, .str x.2]
theorem pairAt_tk {H H' : Hp} (e : Tk K H H') {vs : List V} {xs : Bars} (h : All2 (PairAt K H) vs xs) : All2 (PairAt K H') vs xs := h.mono fun _ _ ⟨a, h1, h2⟩ => ⟨a, h1, e _ _ h2⟩
def noE (l : Bars) : Bars := l.filter fun y => !decide (y.2 = "")
def ToldL (K : PySem.W.Frag) (M : Addr → Prop) (H : Hp) (v : V) (x : Row × Bars) : Prop := ∃ a r lc cv, v = .ref a ∧ SqT K H a [.ref r, .ref lc] ∧ SqT K H r x.1.v ∧ H lc = some (.lst cv) ∧ All2 (PairAt K H) cv (noE x.2) ∧ ∀ m, M m → lc ≠ m
theorem toldL_ex {M : Addr → Prop} {H H' : Hp} (e : Ex H H') {vs : List V} {xs : List (Row × Bars)} (h : All2 (ToldL K M H) vs xs) : All2 (ToldL K M H') vs xs := h.mono fun _ _ ⟨a, r, lc, cv, h1, h2, h3, h4, h5, h6⟩ => ⟨a, r, lc, cv, h1, e.sqT h2, e.sqT h3, e _ _ h4, pairAt_tk e.tk h5, h6⟩
theorem toldL_fr {M : Addr → Prop} {b : Addr} {ys : List V} {H H' : Hp} (e : Fr b H H') (hb : H b = some (.lst ys)) (m : M b) {vs : List V} {xs : List (Row × Bars)} (h : All2 (ToldL K M H) vs xs) : All2 (ToldL K M H') vs xs := h.mono fun _ _ ⟨a, r, lc, cv, h1, h2, h3, h4, h5, h6⟩ => ⟨a, r, lc, cv, h1, tk_lst e hb _ _ h2, tk_lst e hb _ _ h3, e _ _ (h6 b m) h4, pairAt_tk (tk_lst e hb) h5, h6⟩
theorem row_free {fs : List (Int × Fct)} {c d : Int} {ts : List Spot} {s : Spot} (h : freeF fs c s.g d ≠ "") : rowF fs c d ts s = ⟨s.n, freeF fs c s.g d, none, 0⟩ := by
  unfold freeF at h ⊢
  unfold rowF
  split
  · rfl
  · rename_i h1
    rw [if_neg h1] at h
    split
    · rfl
    · rename_i h2
      rw [if_neg h2] at h
      exact absurd rfl h
theorem row_some {fs : List (Int × Fct)} {c d : Int} {ts : List Spot} {s t : Spot} (h : freeF fs c s.g d = "") (e : ts.find? (fun t => decide (barF fs d t s = "")) = some t) : rowF fs c d ts s = ⟨s.n, "ticket", some t.n, 0⟩ := by
  unfold freeF at h
  unfold rowF
  split
  · rename_i h1
    rw [if_pos h1] at h
    exact absurd h (by decide +kernel)
  · rename_i h1
    rw [if_neg h1] at h
    split
    · rename_i h2
      rw [if_pos h2] at h
      exact absurd h (by decide +kernel)
    · rw [e]
theorem row_none {fs : List (Int × Fct)} {c d : Int} {ts : List Spot} {s : Spot} (h : freeF fs c s.g d = "") (e : ts.find? (fun t => decide (barF fs d t s = "")) = none) : rowF fs c d ts s = ⟨s.n, "owed", none, fareF fs s.g s.h d⟩ := by
  unfold freeF at h
  unfold rowF
  split
  · rename_i h1
    rw [if_pos h1] at h
    exact absurd h (by decide +kernel)
  · rename_i h1
    rw [if_neg h1] at h
    split
    · rename_i h2
      rw [if_pos h2] at h
      exact absurd h (by decide +kernel)
    · rw [e]
def yesE (l : Bars) : List Int := (l.filter fun y => decide (y.2 = ("" : Str))).map (·.1)
theorem yesE_one {b : Int × Str} : yesE [b] = if b.2 = "" then [b.1] else [] := by
  unfold yesE
  rw [List.filter_cons]
  by_cases h : b.2 = ("" : Str)
  · rw [if_pos h, if_pos (decide_eq_true h)]
    rfl
  · rw [if_neg h, if_neg (by rw [decide_eq_false h]; decide)]
    rfl
theorem yesE_take {l : Bars} {j : Nat} {b : Int × Str} (e : l[j]? = some b) : yesE (l.take (j + 1)) = yesE (l.take j) ++ if b.2 = "" then [b.1] else [] := by
  rw [← yesE_one]
  unfold yesE
  rw [List.take_succ, e, List.filter_append, List.map_append]
  rfl
theorem noE_take {l : Bars} {j : Nat} {b : Int × Str} (e : l[j]? = some b) : noE (l.take (j + 1)) = noE (l.take j) ++ if b.2 = "" then [] else [b] := by
  unfold noE
  rw [List.take_succ, e, List.filter_append]
  congr 1
  show List.filter _ [b] = _
  rw [List.filter_cons]
  by_cases h : b.2 = ("" : Str)
  · rw [if_pos h, decide_eq_true h]
    rfl
  · rw [if_neg h, decide_eq_false h]
    rfl
theorem good_eq {fs : List (Int × Fct)} {d : Int} {ts : List Spot} {s : Spot} : yesE (barsF fs d ts s) = (ts.filter fun t => decide (barF fs d t s = "")).map (·.n) := by
  unfold yesE barsF
  rw [List.filter_map, List.map_map]
  rfl
theorem free_owed {fs : List (Int × Fct)} {c g d : Int} : freeF fs c g d ≠ "owed" := by
  unfold freeF
  split
  · decide +kernel
  · split <;> decide +kernel
def spLWalk (K : PySem.W.Frag) : Sp := fun vs H Q _ => ∃ (l : Addr) (c d : Int) (fs : List (Int × Fct)), vs = [.ref l, .int c, .int d] ∧ RL K H l fs ∧ GFs fs ∧ fs.length ≤ 1000 ∧ ∀ p tv H', H p = none → Ex H H' → H' p = some (.lst tv) → All2 (ToldL K (fun m => m = p ∨ H m ≠ none) H') tv (walkF fs c d) → Q (.ref p) H'
theorem sc_l_walk : FnScope ["_law_facts_here", "_law_carriage", "_law_day_here", "_law_rows_here", "_law_tickets", "_law_spots", "_law_number", "_law_fact_here", "_law_minute", "_law_gate_here", "_law_horses", "_law_bars", "_law_word", "_law_good", "_law_row", "_law_ticket", "_law_one", "_law_mark", "_law_pair"] ["_law_facts_here", "_law_carriage", "_law_day_here"] (defScope s_l_walk) :=
  ⟨rfl, rfl, rfl, by decide +kernel, rfl, by decide +kernel, by decide +kernel⟩
theorem ok_l_walk (T : Tx P K mg w) : FnOk P w K mg base CX0 4 T.f_l_walk T.d_l_walk ["_law_facts_here", "_law_carriage", "_law_day_here"] (spLWalk K) := by
  refine T.F_l_walk.ok sc_l_walk (fun vs H Q E h => ?_) (fun cdv A outer s H vs Q E hr h => ?_)
  · obtain ⟨l, c, d, fs, rfl, _⟩ := h
    rfl
  · obtain ⟨l, c, d, fs, rfl, rl, gf, hz, k⟩ := h
    obtain ⟨vs, hl, hf⟩ := id rl
    have hlen := rfs_len hf
    refine ⟨_, (pss_cons (ps_set (i := 3) sc_l_walk.nd rfl (Or.inl rfl) (pe_lst pa_nil)) (pss_cons (ps_set (i := 4) sc_l_walk.nd rfl (Or.inl rfl) (pe_lst pa_nil)) (pss_cons (ps_set (i := 5) sc_l_walk.nd rfl (Or.inl rfl) (pe_lst pa_nil)) (pss_cons (ps_for PassesOwn.never rfl (pi_list (pv 0)) (pg_tup (by rfl) (pgs_cons (pg_name (i := 6) sc_l_walk.nd rfl (Or.inl rfl)) (pgs_cons (pg_name (i := 7) sc_l_walk.nd rfl (Or.inl rfl)) pgs_nil))) (pss_one (ps_if (PW.pt (pw_and (pt_cmpR op_eq (pe_ix (r := rIxT K) ix_tup (pv 7) pe_int (fun _ _ => rfl)) pe_str (nomark _)) (pw_and (pt_cmpR op_eq (pe_ix (r := rIxT K) ix_tup (pv 7) pe_int (fun _ _ => rfl)) (pv 2) (nomark _)) (pw_and1 (pt_cmpR op_eq (pe_ix (r := rIxT K) ix_tup (pv 7) pe_int (fun _ _ => rfl)) (pv 1) (nomark _)))))) (pss_one (ps_expr (pe_bm PySem.F.plainAttrs_list PySem.F.slot_list_append PySem.F.type_list_append mt_append (pv 5) (pa_cons (pe_tup (pa_cons (pe_ix (r := rIxT K) ix_tup (pv 7) pe_int (fun _ _ => rfl)) (pa_cons (pv 6) (pa_cons (pe_ix (r := rIxT K) ix_tup (pv 7) pe_int (fun _ _ => rfl)) (pa_cons (pe_ix (r := rIxT K) ix_tup (pv 7) pe_int (fun _ _ => rfl)) pa_nil))))) pa_nil)))) pss_nil))) (pss_cons (ps_for PassesOwn.never rfl (pi_list (pe_callB (r := rSortTa K) cr_sortTa (by rfl) T.z_sorted (by decide +kernel) (pa_cons (pv 5) pa_nil))) (pg_tup (by rfl) (pgs_cons (pg_name (i := 8) sc_l_walk.nd rfl (Or.inr rfl)) (pgs_cons (pg_name (i := 6) sc_l_walk.nd rfl (Or.inl rfl)) (pgs_cons (pg_name (i := 9) sc_l_walk.nd rfl (Or.inr rfl)) (pgs_cons (pg_name (i := 10) sc_l_walk.nd rfl (Or.inr rfl)) pgs_nil))))) (pss_cons (ps_setLc (i := 11) (own := [("_law_ticket", 15)]) (by rfl) sc_l_walk.nd rfl rfl (sw_true rfl rfl rfl (by decide +kernel)) (pi_list (pv 4)) (blkOk_by (own := [("_law_ticket", 15)]) (N := ["_law_facts_here", "_law_carriage", "_law_day_here", "_law_rows_here", "_law_tickets", "_law_spots", "_law_number", "_law_fact_here", "_law_minute", "_law_gate_here", "_law_horses", "_law_bars", "_law_word", "_law_good", "_law_row", "_law_ticket", "_law_one", "_law_mark", "_law_pair"]) (sc := defScope s_l_walk) (by decide +kernel)) (fun _ _ _ _ _ => (pg_name (i := 15) sc_l_walk.nd rfl (Or.inl rfl))) (fun _ _ _ _ _ => pts_nil) (fun _ _ _ _ _ => (pe_tup (pa_cons (pe_ix (r := rIxT K) ix_tup (pv 15) pe_int (fun _ _ => rfl)) (pa_cons (pe_call (ok_l_bar T) (hr.mono (by decide)) rfl T.g_l_bar T.F_l_bar.kp T.b_l_bar .nil pass0 (pa_cons (pv 0) (pa_cons (pv 15) (pa_cons (pv 2) (pa_cons (pv 8) (pa_cons (pv 9) (pa_cons (pv 10) pa_nil))))))) pa_nil))))) (pss_cons (ps_set (i := 12) sc_l_walk.nd rfl (Or.inl rfl) (pe_call (ok_l_free T) (hr.mono (by decide)) rfl T.g_l_free T.F_l_free.kp T.b_l_free .nil pass0 (pa_cons (pv 0) (pa_cons (pv 1) (pa_cons (pv 9) (pa_cons (pv 2) pa_nil)))))) (pss_cons (ps_setLc (i := 13) (own := [("_law_one", 16), ("_law_mark", 17)]) (by rfl) sc_l_walk.nd rfl rfl (sw_true rfl rfl rfl (by decide +kernel)) (pi_list (pv 11)) (blkOk_by (own := [("_law_one", 16), ("_law_mark", 17)]) (N := ["_law_facts_here", "_law_carriage", "_law_day_here", "_law_rows_here", "_law_tickets", "_law_spots", "_law_number", "_law_fact_here", "_law_minute", "_law_gate_here", "_law_horses", "_law_bars", "_law_word", "_law_good", "_law_row", "_law_ticket", "_law_one", "_law_mark", "_law_pair"]) (sc := defScope s_l_walk) (by decide +kernel)) (fun _ _ _ _ _ => (pg_tupK (K := K) 2 rfl (by rfl) (pgs_cons (pg_name (i := 16) sc_l_walk.nd rfl (Or.inl rfl)) (pgs_cons (pg_name (i := 17) sc_l_walk.nd rfl (Or.inl rfl)) pgs_nil)))) (fun _ _ _ _ _ => (pts_one (pt_cmpR op_eq (pv 17) pe_str (nomark _)))) (fun _ _ _ _ _ => (pv 16))) (pss_cons (ps_set (i := 14) sc_l_walk.nd rfl (Or.inl rfl) (pe_tup (pa_cons (pv 6) (pa_cons (pv 12) (pa_cons pe_non (pa_cons pe_int pa_nil)))))) (Evl.pss_cut (ps_if (PW.pt (pw_and (pt_cmpR op_eq (pv 12) pe_str (nomark _)) (pw_and1 (pt_cmpR op_gt (pe_callB (r := Z.rLen K) cz_len (by rfl) T.z_len PySem.boot_len (pa_cons (pv 13) pa_nil)) pe_int (nomark _))))) (pss_one (ps_set (i := 14) sc_l_walk.nd rfl (Or.inl rfl) (pe_tup (pa_cons (pv 6) (pa_cons pe_str (pa_cons (pe_ix (r := rIxL K) ix_list (pv 13) pe_int (fun _ _ => rfl)) (pa_cons pe_int pa_nil))))))) (pss_one (ps_if (pt_cmpR op_eq (pv 12) pe_str (nomark _)) (pss_cons (ps_set (i := 14) sc_l_walk.nd rfl (Or.inl rfl) (pe_tup (pa_cons (pv 6) (pa_cons pe_str (pa_cons pe_non (pa_cons (pe_call (ok_l_asked_toll T) (hr.mono (by decide)) rfl T.g_l_asked_toll T.F_l_asked_toll.kp T.b_l_asked_toll .nil pass0 (pa_cons (pv 0) (pa_cons (pv 9) (pa_cons (pv 2) (pa_cons (pv 10) pa_nil))))) pa_nil)))))) (pss_one (ps_expr (pe_bm PySem.F.plainAttrs_list PySem.F.slot_list_append PySem.F.type_list_append mt_append (pv 4) (pa_cons (pe_tup (pa_cons (pv 6) (pa_cons (pv 9) (pa_cons (pv 10) pa_nil)))) pa_nil))))) pss_nil))) (pss_one (ps_expr (pe_bm PySem.F.plainAttrs_list PySem.F.slot_list_append PySem.F.type_list_append mt_append (pv 3) (pa_cons (pe_tup (pa_cons (pv 14) (pa_cons (pe_lc (own := [("_law_pair", 18)]) (by rfl) sc_l_walk.nd (pi_list (pv 11)) (blkOk_by (own := [("_law_pair", 18)]) (N := ["_law_facts_here", "_law_carriage", "_law_day_here", "_law_rows_here", "_law_tickets", "_law_spots", "_law_number", "_law_fact_here", "_law_minute", "_law_gate_here", "_law_horses", "_law_bars", "_law_word", "_law_good", "_law_row", "_law_ticket", "_law_one", "_law_mark", "_law_pair"]) (sc := defScope s_l_walk) (by decide +kernel)) (fun _ _ _ _ _ => (pg_name (i := 18) sc_l_walk.nd rfl (Or.inl rfl))) (fun _ _ _ _ _ => (pts_one (pt_cmpR op_ne (pe_ix (r := rIxT K) ix_tup (pv 18) pe_int (fun _ _ => rfl)) pe_str (nomark _)))) (fun _ _ _ _ _ => (pv 18))) pa_nil))) pa_nil)))))))))) (pss_one (ps_ret (pv 3)))))))), ?_⟩
    refine at_start (ρ' := [some _, some _, some _, none, none, none, none, none, none, none, none, none, none, none, none, none, none, none, none]) rfl ?_
    walk_at "z0"
    walk_at "z"
    rename_i lr H1 n1 e1 hlr lt H2 n2 e2 hlt ls H3 n3 e3 hls
    have e03 := (e1.trans e2).trans e3
    have nlr : H lr = none := n1
    have nlt : H lt = none := Ex.back e1 n2
    have nls : H ls = none := Ex.back (e1.trans e2) n3
    have ne1 : lr ≠ lt := ne_of_none hlr n2
    have ne2 : lr ≠ ls := ne_of_none (e2 _ _ hlr) n3
    have ne3 : lt ≠ ls := ne_of_none hlt n3
    refine l_list vs (fun i σ H' => ∃ us v6 v7, σ = [some (.ref l), some (.int c), some (.int d), some (.ref lr), some (.ref lt), some (.ref ls), v6, v7, none, none, none, none, none, none, none, none, none, none, none] ∧ Ex H H' ∧ H' lr = some (.lst []) ∧ H' lt = some (.lst []) ∧ H' ls = some (.lst us) ∧ All2 (SpotAt K H') us (spotsF c d (fs.take i)))
      ⟨[], _, _, rfl, e03, e3 _ _ (e2 _ _ hlr), e3 _ _ hlt, hls, .nil⟩ (fun i σ H' hi h => ?_) (fun i x σ H4 hi h => ?_) (fun σ H4 h => ?_)
    · obtain ⟨us, v4, v5, rfl, e2, _⟩ := h
      exact e2.sqL hl
    · obtain ⟨us, v6, v7, rfl, e4, hr4, ht4, hs4, h2⟩ := h
      obtain ⟨q, n, u, f, hfi, rfl, hq, a, zs, rfl, ha, hu⟩ := rfs_get hf hi
      replace hq := e4.sqT hq
      replace ha := e4.sqT ha
      have g1 := gf.good _ (List.mem_of_getElem? hfi)
      have hl2 : us.length ≤ 1000 := by
        rw [h2.len]
        have z := @spots_len c d (fs.take i)
        rw [List.length_take] at z
        omega
      walk_at "z"
      refine s_ixT ha (at0 _ _) ?_
      walk_at "z"
      refine ite_dec (fun h3 => ?_) (fun h3 => ?_)
      · obtain ⟨d', m, g, c', ho, rfl, _⟩ := gf_pass g1 h3
        have hu := fds5 hu
        subst hu
        have no : ¬ (d' = d ∧ c' = c) → spotsF c d (fs.take (i + 1)) = spotsF c d (fs.take i) := fun h => by
          rw [spots_take hfi]
          unfold spotF
          dsimp only
          rw [if_neg (fun z => h z.2)]
          simp
        walk_at "z"
        refine ite_dec (fun h4 => ?_) (fun h4 => ?_)
        · walk_at "z"
          refine ite_dec (fun h5 => ?_) (fun h5 => ?_)
          · walk_at "z"
            rename_i t H5 _ e5 ht
            refine s_app (e5 _ _ hs4) (szl (by omega)) fun H6 f6 hs6 => ?_
            refine ⟨_, _, _, rfl, (e4.trans e5).fr2 nls f6, f6 _ _ ne2 (e5 _ _ hr4), f6 _ _ ne3 (e5 _ _ ht4), hs6, ?_⟩
            have es : spotsF c d (fs.take (i + 1)) = spotsF c d (fs.take i) ++ [⟨m, n, g, ho⟩] := by
              rw [spots_take hfi]
              unfold spotF
              dsimp only
              rw [if_pos ⟨rfl, h4, h5⟩]
              rfl
            rw [es]
            have tk := tk_lst (K := K) f6 (e5 _ _ hs4)
            exact (spotAt_tk (e5.tk.trans tk) h2).snoc ⟨t, rfl, tk _ _ (SqT.of ht)⟩
          · walk_at "z"
            rw [no (fun z => h5 z.2)]
            exact ⟨_, _, _, rfl, e4, hr4, ht4, hs4, h2⟩
        · walk_at "z"
          rw [no (fun z => h4 z.1)]
          exact ⟨_, _, _, rfl, e4, hr4, ht4, hs4, h2⟩
      · walk_at "z"
        rw [spots_take hfi, gf_arity5 g1 h3]
        simp only [Option.toList_none, List.append_nil]
        exact ⟨_, _, _, rfl, e4, hr4, ht4, hs4, h2⟩
    · obtain ⟨us, v6, v7, rfl, e4, hr4, ht4, hs4, h2⟩ := h
      rw [List.take_of_length_le (by rw [hlen]; exact Nat.le_refl _)] at h2
      walk_at "z"
      refine s_sortTa 4 (by decide) (SqL.of hs4) (h2.map_r Spot.l fun _ _ q => q) (fun x hx => by
        obtain ⟨y, _, rfl⟩ := List.mem_map.mp hx
        rfl) fun vo lz lo H5 h3 h4 h5 nr e5 hlo => ?_
      have el : lz = (ordF c d fs).map Spot.l := lx_uniq (h3.trans ((ord_perm c d fs).map Spot.l).symm) h4 (List.pairwise_map.mpr (ord_sorted c d fs))
      rw [el] at h5
      have hvo : All2 (SpotAt K H5) vo (ordF c d fs) := all2_unmap (R := TIs K H5) (f := Spot.l) h5
      have e05 := e4.trans e5
      have q1 : lr ≠ lo := ne_of_none hr4 nr
      have q2 : lt ≠ lo := ne_of_none ht4 nr
      clear el h5 h4 h3 h2 hs4 hls e03 e3 e2 e1
      have nlo := (Ex.back e4 nr)
      refine l_list vo (fun i σ H' => ∃ tk rv v6 v8 v9 v10 v11 v12 v13 v14, σ = [some (.ref l), some (.int c), some (.int d), some (.ref lr), some (.ref lt), some (.ref ls), v6, v7, v8, v9, v10, v11, v12, v13, v14, none, none, none, none] ∧ Ex H H' ∧ H' lo = some (.lst vo) ∧ All2 (SpotAt K H') vo (ordF c d fs) ∧ H' lt = some (.lst tk) ∧ All2 (fun v t => TIs K H' v [t.n, t.g, t.h]) tk (runF fs c d ((ordF c d fs).take i)).1 ∧ H' lr = some (.lst rv) ∧ All2 (ToldL K (fun m => m = lr ∨ m = lt ∨ H m ≠ none) H') rv (runF fs c d ((ordF c d fs).take i)).2)
        ⟨[], [], _, _, _, _, _, _, _, _, rfl, e05, hlo, hvo, e5 _ _ ht4, .nil, e5 _ _ hr4, .nil⟩ (fun i σ H' hi h => ?_) (fun i x σ H6 hi h => ?_) (fun σ H6 h => ?_)
      · obtain ⟨_, _, _, _, _, _, _, _, _, _, rfl, _, hq, _⟩ := h
        exact SqL.of hq
      · obtain ⟨tk, rv, v6, v8, v9, v10, v11, v12, v13, v14, rfl, e6, hlo6, hvo6, ht6, htk, hr6, hrv⟩ := h
        clear e05 hlo hvo e5 hr4 ht4
        obtain ⟨sp, hsp, xa, rfl, hxa⟩ := hvo6.get hi
        replace hxa : SqT K H6 xa [.int sp.m, .int sp.n, .int sp.g, .int sp.h] := hxa
        have hsm : sp ∈ ordF c d fs := List.mem_of_getElem? hsp
        have hi1 : i < (ordF c d fs).length := (List.getElem?_eq_some_iff.mp hsp).1
        obtain ⟨_, _, _, rg, rh, rm⟩ := ord_gf gf hsm
        have hol := @ord_len c d fs
        obtain ⟨g1, g2⟩ := step_len (fs := fs) (c := c) (d := d) ((ordF c d fs).take i) ([], [])
        replace g1 : (runF fs c d ((ordF c d fs).take i)).1.length ≤ 0 + _ := g1
        replace g2 : (runF fs c d ((ordF c d fs).take i)).2.length = 0 + _ := g2
        rw [List.length_take] at g1 g2
        have gt := htk.len
        have gv := hrv.len
        have er := run_take (fs := fs) (c := c) (d := d) hsp
        have sub : ∀ t ∈ (runF fs c d ((ordF c d fs).take i)).1, t ∈ ordF c d fs := fun t ht => by
          rcases run_sub _ _ t ht with h | h
          · cases h
          · exact List.mem_of_mem_take h
        generalize runF fs c d ((ordF c d fs).take i) = st at htk hrv g1 g2 gt gv er sub
        obtain ⟨ts, rows⟩ := st
        dsimp only at htk hrv g1 g2 gt gv sub
        walk_at "z"
        refine c_list tk (SqL.of ht6) (fun D H' => H6 D = none ∧ Ex H6 H') (fun D j acc H' => All2 (PairAt K H') acc (barsF fs d (ts.take j) sp)) (fun D H' n e _ => ⟨⟨n, e⟩, .nil⟩) (fun D H' Iv => SqL.of (Iv.2 _ _ ht6)) (fun D j acc H7 y hy Iv hD hn r => ?_) (fun D acc H7 Iv hD hn r => ?_)
        · obtain ⟨nD, e7⟩ := Iv
          obtain ⟨t, htj, ya, rfl, hya⟩ := htk.get hy
          have hj : j < tk.length := (List.getElem?_eq_some_iff.mp hy).1
          replace hya : SqT K H7 ya [.int t.n, .int t.g, .int t.h] := e7.sqT hya
          obtain ⟨_, _, _, rtg, _, _⟩ := ord_gf gf (sub t (List.mem_of_getElem? htj))
          walk_at "z"
          refine ⟨rfl, ?_⟩
          walk_at "z"
          refine ⟨l, _, d, t, sp, fs, rfl, rl_ex (e6.trans e7) rl, gf, hz, rtg, rm, ⟨ya, rfl, hya⟩, fun H8 e8 => ?_⟩
          walk_at "z"
          rename_i q H9 _ e9 hq
          have e79 := e8.trans e9
          refine c_put (e79 _ _ hD) ⟨hn, by omega⟩ fun H10 f10 _ => ⟨⟨nD, (e7.trans e79).fr2 nD f10⟩, ?_⟩
          have tk10 := tk_lst (K := K) f10 (e79 _ _ hD)
          have eb : barsF fs d (ts.take (j + 1)) sp = barsF fs d (ts.take j) sp ++ [(t.n, barF fs d t sp)] := by
            unfold barsF
            rw [List.take_succ, htj, List.map_append]
            rfl
          rw [eb]
          exact (pairAt_tk (e79.tk.trans tk10) r).snoc ⟨q, rfl, tk10 _ _ (SqT.of hq)⟩
        · obtain ⟨nD, e7⟩ := Iv
          rw [List.take_of_length_le (by rw [gt]; exact Nat.le_refl _)] at r
          have hlb : acc.length ≤ 1000 := by omega
          have nDr : D ≠ lr := (ne_of_none hr6 nD).symm
          have nDt : D ≠ lt := (ne_of_none ht6 nD).symm
          walk_at "z"
          refine ⟨l, c, sp.g, d, fs, rfl, rl_ex (e6.trans e7) rl, gf, ?_⟩
          walk_at "z"
          refine c_list acc (SqL.of hD) (fun D2 H' => H7 D2 = none ∧ Ex H7 H') (fun D2 j ac2 H' => ac2 = (yesE ((barsF fs d ts sp).take j)).map V.int) (fun D2 H' n e _ => ⟨⟨n, e⟩, rfl⟩) (fun D2 H' Iv => SqL.of (Iv.2 _ _ hD)) (fun D2 j ac2 H8 y hy Iv hD2 hn2 r2 => ?_) (fun D2 ac2 H8 Iv hD2 hn2 r2 => ?_)
          · obtain ⟨nD2, e8⟩ := Iv
            obtain ⟨b, hb, ya, rfl, hya⟩ := r.get hy
            have hj : j < acc.length := (List.getElem?_eq_some_iff.mp hy).1
            replace hya := e8.sqT hya
            walk_at "z"
            refine ⟨rfl, ?_⟩
            walk_at "z"
            refine ite_dec (fun h1 => ?_) (fun h1 => ?_)
            · walk_at "z"
              refine c_put hD2 ⟨hn2, by omega⟩ fun H9 f9 _ => ⟨⟨nD2, e8.fr2 nD2 f9⟩, ?_⟩
              rw [yesE_take hb, if_pos h1, r2, List.map_append]
              rfl
            · refine c_skip hD2 hn2 ⟨nD2, e8⟩ ?_
              rw [yesE_take hb, if_neg h1, List.append_nil, r2]
          · obtain ⟨nD2, e8⟩ := Iv
            rw [List.take_of_length_le (by rw [← r.len]; exact Nat.le_refl _), good_eq] at r2
            subst r2
            have e68 := e7.trans e8
            have hxa8 := e68.sqT hxa
            replace hD := e8 _ _ hD
            replace r := pairAt_tk e8.tk r
            replace htk : All2 (fun v (t : Spot) => TIs K H8 v [t.n, t.g, t.h]) tk ts := htk.mono fun _ _ q => q.tk e68.tk
            replace hrv := toldL_ex e68 hrv
            replace hr6 := e68 _ _ hr6
            replace ht6 := e68 _ _ ht6
            replace hlo6 := e68 _ _ hlo6
            replace hvo6 := spotAt_tk e68.tk hvo6
            replace e6 := e6.trans e68
            clear e7 e8 e68 nD2 hxa
            have e1' : (stepF fs c d (ts, rows) sp).2 = rows ++ [(rowF fs c d ts sp, barsF fs d ts sp)] := rfl
            have e2' : (stepF fs c d (ts, rows) sp).1 = if (rowF fs c d ts sp).w = "owed" then ts ++ [sp] else ts := rfl
            have gfi : (ts.filter fun t => decide (barF fs d t sp = "")).head? = ts.find? fun t => decide (barF fs d t sp = "") := List.head?_filter
            walk_at "z"
            rename_i r0 H9 _ e9 hr0
            refine s_cut (fun ρ H' => ∃ ra tk', ρ = [some (.ref l), some (.int c), some (.int d), some (.ref lr), some (.ref lt), some (.ref ls), some (.int sp.n), v7, some (.int sp.m), some (.int sp.g), some (.int sp.h), some (.ref D), some (.str (freeF fs c sp.g d)), some (.ref D2), some (.ref ra), none, none, none, none] ∧ Ex H H' ∧ H' lo = some (.lst vo) ∧ Tk K H8 H' ∧ H' lt = some (.lst tk') ∧ All2 (fun v (t : Spot) => TIs K H' v [t.n, t.g, t.h]) tk' (stepF fs c d (ts, rows) sp).1 ∧ H' lr = some (.lst rv) ∧ H' D = some (.lst acc) ∧ All2 (ToldL K (fun m => m = lr ∨ m = lt ∨ H m ≠ none) H') rv rows ∧ SqT K H' ra (rowF fs c d ts sp).v) ?_ fun ρ H10 h => ?_
            · by_cases hw : freeF fs c sp.g d = ""
              · walk_at "z"
                refine ite_pos hw ?_
                walk_at "z"
                cases hg : ts.filter fun t => decide (barF fs d t sp = "") with
                | nil =>
                  rw [hg] at gfi hD2
                  have ef := row_none hw gfi.symm
                  refine ite_neg (by simp) ?_
                  walk_at "z"
                  refine ite_pos hw ?_
                  walk_at "z"
                  refine ⟨l, sp.g, d, sp.h, fs, rfl, rl_ex (e6.trans e9) rl, gf, rh, fun H10 e10 => ?_⟩
                  walk_at "z"
                  rename_i r1 H11 _ e11 hr1 q H12 _ e12 hq
                  have e812 := ((e9.trans e10).trans e11).trans e12
                  refine s_app (e812 _ _ ht6) (szl (by omega)) fun H13 f13 ht13 => ?_
                  have tk13 := tk_lst (K := K) f13 (e812 _ _ ht6)
                  have tkA := e812.tk.trans tk13
                  refine ⟨_, _, rfl, (e6.trans e812).fr2 nlt f13, f13 _ _ q2.symm (e812 _ _ hlo6), tkA, ht13, ?_, f13 _ _ ne1 (e812 _ _ hr6), f13 _ _ nDt (e812 _ _ hD), toldL_fr f13 (e812 _ _ ht6) (by simp) (toldL_ex e812 hrv), ?_⟩
                  · rw [e2', ef, if_pos rfl]
                    exact All2.snoc (htk.mono fun _ _ z => z.tk tkA) ⟨q, rfl, tk13 _ _ (SqT.of hq)⟩
                  · rw [ef]
                    exact tk13 _ _ (e12.sqT (SqT.of hr1))
                | cons t rest =>
                  rw [hg] at gfi hD2
                  have ef := row_some hw gfi.symm
                  rw [List.map_cons, List.map_cons] at hD2
                  have hD29 := e9 _ _ hD2
                  refine ite_pos (by simp only [List.length_cons, List.length_map]; omega) ?_
                  walk_at "z"
                  refine s_ixL (v := .int t.n) (SqL.of hD29) (at0 _ ((rest.map (·.n)).map V.int)) ?_
                  walk_at "z"
                  rename_i r1 H11 _ e11 hr1
                  have e811 := e9.trans e11
                  refine ⟨_, _, rfl, e6.trans e811, e811 _ _ hlo6, e811.tk, e811 _ _ ht6, ?_, e811 _ _ hr6, e811 _ _ hD, toldL_ex e811 hrv, ?_⟩
                  · rw [e2', ef, if_neg (by dsimp only; decide +kernel)]
                    exact htk.mono fun _ _ z => z.tk e811.tk
                  · rw [ef]
                    exact SqT.of hr1
              · have ef := row_free (ts := ts) hw
                walk_at "z"
                refine ite_neg hw ?_
                walk_at "z"
                refine ite_neg hw ?_
                walk_at "z"
                refine ⟨_, _, rfl, e6.trans e9, e9 _ _ hlo6, e9.tk, e9 _ _ ht6, ?_, e9 _ _ hr6, e9 _ _ hD, toldL_ex e9 hrv, ?_⟩
                · rw [e2', ef, if_neg free_owed]
                  exact htk.mono fun _ _ z => z.tk e9.tk
                · rw [ef]
                  exact SqT.of hr0
            · obtain ⟨ra, tk', rfl, e10, hlo10, tk10, ht10, htk10, hr10, hD10, hrv10, hra⟩ := h
              replace r := pairAt_tk tk10 r
              replace hvo6 := spotAt_tk tk10 hvo6
              clear e9 hr0 hD2
              walk_at "z"
              refine c_list acc (SqL.of hD10) (fun D3 H' => H10 D3 = none ∧ Ex H10 H') (fun D3 j ac3 H' => All2 (PairAt K H') ac3 (noE ((barsF fs d ts sp).take j))) (fun D3 H' n e _ => ⟨⟨n, e⟩, .nil⟩) (fun D3 H' Iv => SqL.of (Iv.2 _ _ hD10)) (fun D3 j ac3 H11 y hy Iv hD3 hn3 r3 => ?_) (fun D3 ac3 H11 Iv hD3 hn3 r3 => ?_)
              · obtain ⟨nD3, e11⟩ := Iv
                obtain ⟨b, hb, ya, rfl, hya⟩ := r.get hy
                have hj : j < acc.length := (List.getElem?_eq_some_iff.mp hy).1
                replace hya := e11.sqT hya
                walk_at "z"
                refine ⟨rfl, ?_⟩
                walk_at "z"
                refine ite_ndec (fun h1 => ?_) (fun h1 => ?_)
                · walk_at "z"
                  refine c_put hD3 ⟨hn3, by omega⟩ fun H12 f12 _ => ⟨⟨nD3, e11.fr2 nD3 f12⟩, ?_⟩
                  have tk12 := tk_lst (K := K) f12 hD3
                  rw [noE_take hb, if_neg h1]
                  exact (pairAt_tk tk12 r3).snoc ⟨ya, rfl, tk12 _ _ hya⟩
                · refine c_skip hD3 hn3 ⟨nD3, e11⟩ ?_
                  rw [noE_take hb, if_pos h1, List.append_nil]
                  exact r3
              · obtain ⟨nD3, e11⟩ := Iv
                rw [List.take_of_length_le (by rw [← r.len]; exact Nat.le_refl _)] at r3
                have nD3r : D3 ≠ lr := (ne_of_none hr10 nD3).symm
                have nD3t : D3 ≠ lt := (ne_of_none ht10 nD3).symm
                walk_at "z"
                rename_i q H12 _ e12 hq
                have e1012 := e11.trans e12
                refine s_app (e1012 _ _ hr10) (szl (by omega)) fun H13 f13 hr13 => ?_
                have tk13 := tk_lst (K := K) f13 (e1012 _ _ hr10)
                have tkA := e1012.tk.trans tk13
                refine ⟨tk', _, _, _, _, _, _, _, _, _, rfl, (e10.trans e1012).fr2 nlr f13, f13 _ _ q1.symm (e1012 _ _ hlo10), spotAt_tk tkA hvo6, f13 _ _ ne1.symm (e1012 _ _ ht10), ?_, hr13, ?_⟩
                · rw [er]
                  exact htk10.mono fun _ _ z => z.tk tkA
                · rw [er, e1']
                  have h8 := toldL_fr f13 (e1012 _ _ hr10) (by simp) (toldL_ex e1012 hrv10)
                  refine h8.snoc ⟨q, ra, D3, ac3, rfl, tk13 _ _ (SqT.of hq), tkA _ _ hra, f13 _ _ nD3r (e12 _ _ hD3), pairAt_tk (e12.tk.trans tk13) r3, fun m hm => ?_⟩
                  rcases hm with rfl | rfl | hm
                  · exact nD3r
                  · exact nD3t
                  · exact fun z => hm (by rw [← z]; exact Ex.back e10 nD3)
      · obtain ⟨tk, rv, v6, v8, v9, v10, v11, v12, v13, v14, rfl, e6, hlo6, hvo6, ht6, htk, hr6, hrv⟩ := h
        rw [List.take_of_length_le (by rw [hvo6.len]; exact Nat.le_refl _)] at hrv
        walk_at "z"
        exact k lr rv H6 nlr e6 hr6 (hrv.mono fun _ _ ⟨a, r, lc, cv, h1, h2, h3, h4, h5, h6⟩ => ⟨a, r, lc, cv, h1, h2, h3, h4, h5, fun m hm => h6 m (hm.elim .inl fun z => .inr (.inr z))⟩)

/-! the law's rows by their numbers -/
theorem s_setOfT {H : Hp} {Q : VK} {l : Addr} {ks : List (Addr × List Int)} (hl : SqL K H l (ks.map fun p => V.ref p.1)) (hk : ∀ p ∈ ks, SqT K H p.1 (p.2.map V.int)) (hf : ks.length < 300)
    (k : ∀ a L H', H a = none → (∀ p ∈ L, p ∈ ks) → (∀ p ∈ ks, p.2 ∈ L.map (·.2)) → Ex H H' → H' a = some (SetGO P w a L) → Q (.ref a) H') : rSetOfG K P w [.ref l] H Q :=
  ⟨l, ks, rfl, hl, hk, hf, fun a L h1 h2 h3 => k a L _ h1 h2 h3 (Ex.new h1) upd_same⟩
/-- what stands in the law's dict: the row and its bars -/
def RowB (fs : List (Int × Fct)) (x : Int) (y : Row × Bars) : Prop := ∃ f c d, IsPass fs x f c d ∧ y ∈ walkF fs c d ∧ y.1.n = x
def LBarAt (K : PySem.W.Frag) (H0 H : Hp) (v : V) (y : Row × Bars) : Prop := ∃ a ra lc cv, v = .ref a ∧ SqT K H a [.ref ra, .ref lc] ∧ SqT K H ra y.1.v ∧ H lc = some (.lst cv) ∧ All2 (PairAt K H) cv (noE y.2) ∧ H0 lc = none
theorem LBarAt.ex {H0 H H' : Hp} (e : Ex H H') {v : V} {r : Row × Bars} (h : LBarAt K H0 H v r) : LBarAt K H0 H' v r := by
  obtain ⟨a, ra, lc, cv, h1, h2, h3, h4, h5, h6⟩ := h
  exact ⟨a, ra, lc, cv, h1, e.sqT h2, e.sqT h3, e _ _ h4, pairAt_tk e.tk h5, h6⟩
theorem LBarAt.frd {H0 H H' : Hp} {b : Addr} {kvs : List (Key × V)} (f : Fr b H H') (hb : H b = some (.dK kvs)) {v : V} {r : Row × Bars} (h : LBarAt K H0 H v r) : LBarAt K H0 H' v r := by
  obtain ⟨a, ra, lc, cv, h1, h2, h3, h4, h5, h6⟩ := h
  have t := tk_dK (K := K) f hb
  exact ⟨a, ra, lc, cv, h1, t _ _ h2, t _ _ h3, f _ _ (ne_of h4 hb (fun z => by cases z)) h4, pairAt_tk t h5, h6⟩
theorem LBarAt.frl {H0 H H' : Hp} {b : Addr} {ys : List V} (f : Fr b H H') (hb : H b = some (.lst ys)) (h0 : H0 b ≠ none) {v : V} {r : Row × Bars} (h : LBarAt K H0 H v r) : LBarAt K H0 H' v r := by
  obtain ⟨a, ra, lc, cv, h1, h2, h3, h4, h5, h6⟩ := h
  have t := tk_lst (K := K) f hb
  exact ⟨a, ra, lc, cv, h1, t _ _ h2, t _ _ h3, f _ _ (fun z => h0 (by rw [← z]; exact h6)) h4, pairAt_tk t h5, h6⟩
structure LBarsD (K : PySem.W.Frag) (H0 H : Hp) (fs : List (Int × Fct)) (kvs : List (Key × V)) : Prop where
  val : ∀ x v, valV kvs (Sum.inl x) = some v → ∃ y, RowB fs x y ∧ LBarAt K H0 H v y
  all : ∀ n f c d, IsPass fs n f c d → (valV kvs (Sum.inl n)).isSome = true
  keys : ∃ ks : List Int, kvs.map (·.1) = ks.map Sum.inl ∧ ks.Nodup ∧ ∀ x ∈ ks, x ∈ fs.map (·.1)
theorem LBarsD.ex {H0 H H' : Hp} {fs : List (Int × Fct)} {kvs : List (Key × V)} (e : Ex H H') (h : LBarsD K H0 H fs kvs) : LBarsD K H0 H' fs kvs :=
  ⟨fun x v hv => by
    obtain ⟨r, h1, h2⟩ := h.val x v hv
    exact ⟨r, h1, h2.ex e⟩, h.all, h.keys⟩
theorem LBarsD.frl {H0 H H' : Hp} {b : Addr} {ys : List V} {fs : List (Int × Fct)} {kvs : List (Key × V)} (f : Fr b H H') (hb : H b = some (.lst ys)) (h0 : H0 b ≠ none) (h : LBarsD K H0 H fs kvs) : LBarsD K H0 H' fs kvs :=
  ⟨fun x v hv => by
    obtain ⟨r, h1, h2⟩ := h.val x v hv
    exact ⟨r, h1, h2.frl f hb h0⟩, h.all, h.keys⟩
def spLRows (K : PySem.W.Frag) : Sp := fun vs H Q _ => ∃ (l : Addr) (fs : List (Int × Fct)), vs = [.ref l] ∧ RL K H l fs ∧ GFs fs ∧ fs.length ≤ 200 ∧ ∀ p kvs H', H p = none → Ex H H' → H' p = some (.dK kvs) → LBarsD K H H' fs kvs → Q (.ref p) H'
theorem sc_l_rows : FnScope ["_law_facts_here", "_law_spots", "_law_found", "_law_carriage", "_law_day_here", "_law_row", "_law_bars", "_law_number", "_law_fact_here"] ["_law_facts_here"] (defScope s_l_rows) :=
  ⟨rfl, rfl, rfl, by decide +kernel, rfl, by decide +kernel, by decide +kernel⟩
theorem ok_l_rows (T : Tx P K mg w) : FnOk P w K mg base CX0 5 T.f_l_rows T.d_l_rows ["_law_facts_here"] (spLRows K) := by
  refine T.F_l_rows.ok sc_l_rows (fun vs H Q E h => ?_) (fun cdv A outer s H vs Q E hr h => ?_)
  · obtain ⟨l, fs, rfl, _⟩ := h
    rfl
  · obtain ⟨l, fs, rfl, rl, gf, hz, k⟩ := h
    obtain ⟨vs, hl, hf⟩ := id rl
    have hlen := rfs_len hf
    refine ⟨_, (pss_cons (ps_set (i := 1) sc_l_rows.nd rfl (Or.inl rfl) (pe_callB (cr_sortedG rfl) (by rfl) T.z_sorted (by decide +kernel) (pa_cons (pe_callTy (cr_setOfG rfl hr.units) (by rfl) T.z_set (by decide +kernel) (pa_cons (pe_lc (own := [("_law_number", 7), ("_law_fact_here", 8)]) (by rfl) sc_l_rows.nd (pi_list (pv 0)) (blkOk_by (own := [("_law_number", 7), ("_law_fact_here", 8)]) (N := ["_law_facts_here", "_law_spots", "_law_found", "_law_carriage", "_law_day_here", "_law_row", "_law_bars", "_law_number", "_law_fact_here"]) (sc := defScope s_l_rows) (by decide +kernel)) (fun _ _ _ _ _ => (pg_tupK (K := K) 2 rfl (by rfl) (pgs_cons (pg_name (i := 7) sc_l_rows.nd rfl (Or.inl rfl)) (pgs_cons (pg_name (i := 8) sc_l_rows.nd rfl (Or.inl rfl)) pgs_nil)))) (fun _ _ _ _ _ => (pts_one (pt_cmpR op_eq (pe_ix (r := rIxT K) ix_tup (pv 8) pe_int (fun _ _ => rfl)) pe_str (nomark _)))) (fun _ _ _ _ _ => (pe_tup (pa_cons (pe_ix (r := rIxT K) ix_tup (pv 8) pe_int (fun _ _ => rfl)) (pa_cons (pe_ix (r := rIxT K) ix_tup (pv 8) pe_int (fun _ _ => rfl)) pa_nil))))) pa_nil)) pa_nil))) (pss_cons (ps_set (i := 2) sc_l_rows.nd rfl (Or.inl rfl) pe_dnewK) (pss_cons (ps_for PassesOwn.never rfl (pi_list (pv 1)) (pg_tup (by rfl) (pgs_cons (pg_name (i := 3) sc_l_rows.nd rfl (Or.inl rfl)) (pgs_cons (pg_name (i := 4) sc_l_rows.nd rfl (Or.inl rfl)) pgs_nil))) (pss_one (ps_for PassesOwn.never rfl (pi_list (pe_call (ok_l_walk T) (hr.mono (by decide)) rfl T.g_l_walk T.F_l_walk.kp T.b_l_walk .nil pass0 (pa_cons (pv 0) (pa_cons (pv 3) (pa_cons (pv 4) pa_nil))))) (pg_tup (by rfl) (pgs_cons (pg_name (i := 5) sc_l_rows.nd rfl (Or.inl rfl)) (pgs_cons (pg_name (i := 6) sc_l_rows.nd rfl (Or.inl rfl)) pgs_nil))) (pss_one (ps_dput (hu_of hr) (pv 2) (pe_ix (r := rIxT K) ix_tup (pv 5) pe_int (fun _ _ => rfl)) (pe_tup (pa_cons (pv 5) (pa_cons (pv 6) pa_nil))) rfl))))) (pss_one (ps_ret (pv 2)))))), ?_⟩
    refine at_start (ρ' := [some _, none, none, none, none, none, none, none, none]) rfl ?_
    walk_at "z0"
    walk_at "z"
    refine c_list vs hl (fun D H' => H D = none ∧ Ex H H') (fun D i acc H' => ∃ L : List (Addr × List Int), acc = L.map (fun p => V.ref p.1) ∧ (∀ p ∈ L, SqT K H' p.1 (p.2.map V.int)) ∧ (∀ p ∈ L, ∃ n f c d, p.2 = [c, d] ∧ IsPass fs n f c d) ∧ ∀ (j : Nat) n f c d, j < i → fs[j]? = some (n, f) → IsPass fs n f c d → [c, d] ∈ L.map (·.2))
      (fun D H' n e _ => ⟨⟨n, e⟩, [], rfl, (fun p hp => by cases hp), (fun p hp => by cases hp), (fun j n f c d hj => by omega)⟩) (fun D H' Iv => Iv.2.sqL hl) (fun D i acc H1 x hx Iv hD hn r => ?_) (fun D acc H1 Iv hD hn r => ?_)
    · obtain ⟨nD, e1⟩ := Iv
      obtain ⟨L, rfl, hL, honly, hall⟩ := r
      obtain ⟨q, n, u, f, hfi, rfl, hq, a, zs, rfl, ha, hu⟩ := rfs_get hf hx
      replace hq := e1.sqT hq
      replace ha := e1.sqT ha
      have hm := List.mem_of_getElem? hfi
      have hi : i < vs.length := (List.getElem?_eq_some_iff.mp hx).1
      have g1 := gf.good _ hm
      walk_at "z"
      refine ⟨rfl, ?_⟩
      walk_at "z"
      refine s_ixT ha (at0 _ _) ?_
      walk_at "z"
      refine ite_dec (fun h3 => ?_) (fun h3 => ?_)
      · obtain ⟨c, d, hp⟩ := isPass_of gf hm h3
        obtain ⟨_, m, g, ho, rfl, rc, rd⟩ := id hp
        have hu := fds5 hu
        subst hu
        walk_at "z"
        rename_i t H2 _ e2 ht
        refine c_put (e2 _ _ hD) ⟨hn, by omega⟩ fun H3 f3 _ => ⟨⟨nD, (e1.trans e2).fr2 nD f3⟩, L ++ [(t, [c, d])], by rw [List.map_append]; rfl, fun p hp' => ?_, fun p hp' => ?_, fun j n' f' c' d' hj hj2 hp' => ?_⟩
        · have tk3 := tk_lst (K := K) f3 (e2 _ _ hD)
          rcases List.mem_append.mp hp' with hp' | hp'
          · exact tk3 _ _ (e2.sqT (hL p hp'))
          · rw [List.mem_singleton.mp hp']
            exact tk3 _ _ (SqT.of ht)
        · rcases List.mem_append.mp hp' with hp' | hp'
          · exact honly p hp'
          · rw [List.mem_singleton.mp hp']
            exact ⟨_, _, c, d, rfl, hp⟩
        · rw [List.map_append, List.mem_append]
          rcases Nat.lt_succ_iff_lt_or_eq.mp hj with q1 | q1
          · exact .inl (hall j n' f' c' d' q1 hj2 hp')
          · subst q1
            rw [hfi] at hj2
            cases hj2
            obtain ⟨_, m2, g2, ho2, e, _⟩ := hp'
            cases e
            exact .inr (by simp)
      · walk_at "z"
        refine c_skip hD hn ⟨nD, e1⟩ ⟨L, rfl, hL, honly, fun j n' f' c' d' hj hj2 hp' => ?_⟩
        rcases Nat.lt_succ_iff_lt_or_eq.mp hj with q1 | q1
        · exact hall j n' f' c' d' q1 hj2 hp'
        · subst q1
          rw [hfi] at hj2
          cases hj2
          obtain ⟨_, m2, g2, ho2, e, _⟩ := hp'
          rw [e] at h3
          exact absurd rfl h3
    · obtain ⟨nD, e1⟩ := Iv
      obtain ⟨L, rfl, hL, honly, hall⟩ := r
      rw [List.length_map] at hn
      walk_at "z"
      refine s_setOfT (SqL.of hD) hL (by omega) fun S L1 H2 n2 s1 s2 e2 hS => ?_
      walk_at "z"
      refine s_sortedSetT 2 1000 hS (fun p hp => e2.sqT (hL p (s1 p hp))) (by decide) (fun p hp => ?_) fun L2 q H3 h1 h2 n3 e3 hq => ?_
      · obtain ⟨n, f, c, d, e, hp'⟩ := honly p (s1 p hp)
        obtain ⟨_, _, _, _, _, rc, rd⟩ := hp'
        rw [e]
        refine ⟨rfl, fun x hx => ?_⟩
        have := rc.1
        have := rc.2
        have := rd.1
        have := rd.2
        rcases List.mem_cons.mp hx with rfl | hx
        · omega
        · rw [List.mem_singleton.mp hx]
          omega
      have e03 : Ex H H3 := (e1.trans e2).trans e3
      have hdv : All2 (TIs K H3) (L2.map fun q => V.ref q.1) (L2.map (·.2)) := all2_addr fun p hp => e3.sqT (e2.sqT (hL p (s1 p (h1.mem_iff.mp hp))))
      have hds : DaysOf fs (L2.map (·.2)) := ⟨fun n f c d hp => by
        obtain ⟨j, hj⟩ := List.getElem?_of_mem hp.1
        obtain ⟨p, hp1, hp2⟩ := List.mem_map.mp (hall j n f c d (by rw [hlen]; exact (List.getElem?_eq_some_iff.mp hj).1) hj hp)
        rw [(h1.map (·.2)).mem_iff, ← hp2]
        exact s2 p hp1, fun k hk => by
        obtain ⟨p, hp, rfl⟩ := List.mem_map.mp hk
        exact honly p (s1 p (h1.mem_iff.mp hp)), h2⟩
      generalize L2.map (fun q => V.ref q.1) = dv at hdv hq
      generalize L2.map (·.2) = ds at hdv hds
      have nq0 : H q = none := Ex.back (e1.trans e2) n3
      clear hS h1 s1 s2 hD hL honly hall e3 e2 e1 h2
      walk_at "z"
      refine s_dnew fun p H4 n4 e4 hp => ?_
      have np : H p = none := Ex.back e03 n4
      have npq : q ≠ p := ne_of_none hq n4
      walk_at "z"
      refine l_list dv (fun i σ H' => ∃ kvs v3 v4 v5 v6, σ = [some (.ref l), some (.ref q), some (.ref p), v3, v4, v5, v6, none, none] ∧ Ex H H' ∧ H' q = some (.lst dv) ∧ All2 (TIs K H') dv ds ∧ H' p = some (.dK kvs) ∧ (∃ ks : List Int, kvs.map (·.1) = ks.map Sum.inl ∧ ks.Nodup ∧ ∀ x ∈ ks, x ∈ fs.map (·.1)) ∧
          (∀ x v, valV kvs (Sum.inl x) = some v → ∃ r, RowB fs x r ∧ LBarAt K H H' v r) ∧ ∀ (j : Nat) c d, j < i → ds[j]? = some [c, d] → ∀ r ∈ rowsF fs c d, (valV kvs (Sum.inl r.n)).isSome = true)
        ⟨[], _, _, _, _, rfl, e03.trans e4, e4 _ _ hq, tis_all e4.tk hdv, hp, ⟨[], rfl, List.nodup_nil, fun x hx => by cases hx⟩, fun x v hv => (by cases hv), fun j c d hj => by omega⟩ (fun i σ H' hi h => ?_) (fun i x σ H5 hi h => ?_) (fun σ H5 h => ?_)
      · obtain ⟨_, _, _, _, _, rfl, _, hq1, _⟩ := h
        exact SqL.of hq1
      · obtain ⟨kvs, v3, v4, v5, v6, rfl, e5, hq5, hdv5, hp5, hks, hval, hall⟩ := h
        obtain ⟨kk, hk, ta, rfl, hta⟩ := hdv5.get hi
        obtain ⟨n0, f0, c, d, rfl, hp0⟩ := hds.only kk (List.mem_of_getElem? hk)
        replace hta : SqT K H5 ta [.int c, .int d] := hta
        walk_at "z"
        refine ⟨l, c, d, fs, rfl, rl_ex e5 rl, gf, by omega, fun b rv H6 nb e6 hb hrv => ?_⟩
        have hwl := @walk_len fs c d
        have nbp : b ≠ p := (ne_of_none hp5 nb).symm
        refine l_list rv (fun j σ H' => ∃ kv2 v5 v6, σ = [some (.ref l), some (.ref q), some (.ref p), some (.int c), some (.int d), v5, v6, none, none] ∧ Ex H H' ∧ H' q = some (.lst dv) ∧ All2 (TIs K H') dv ds ∧ H' b = some (.lst rv) ∧ All2 (LBarAt K H H') rv (walkF fs c d) ∧ H' p = some (.dK kv2) ∧ (∃ ks : List Int, kv2.map (·.1) = ks.map Sum.inl ∧ ks.Nodup ∧ ∀ x ∈ ks, x ∈ fs.map (·.1)) ∧
            (∀ x v, valV kv2 (Sum.inl x) = some v → ∃ r, RowB fs x r ∧ LBarAt K H H' v r) ∧ (∀ x, (valV kvs (Sum.inl x)).isSome = true → (valV kv2 (Sum.inl x)).isSome = true) ∧ ∀ (j' : Nat) r, j' < j → (walkF fs c d)[j']? = some r → (valV kv2 (Sum.inl r.1.n)).isSome = true)
          ⟨kvs, _, _, rfl, e5.trans e6, e6 _ _ hq5, tis_all e6.tk hdv5, hb, hrv.mono fun _ _ ⟨a, r, lc, cv, h1, h2, h3, h4, h5, h6⟩ => ⟨a, r, lc, cv, h1, h2, h3, h4, h5, Ex.back e5 (Classical.byContradiction fun z => h6 lc (.inr z) rfl)⟩, e6 _ _ hp5, hks, fun x v hv => (by
            obtain ⟨r, h1, h2⟩ := hval x v hv
            exact ⟨r, h1, h2.ex e6⟩), fun x hx => hx, fun j' r hj => by omega⟩ (fun j σ H' hj h => ?_) (fun j x σ H7 hj h => ?_) (fun σ H7 h => ?_)
        · obtain ⟨_, _, _, rfl, _, _, _, hb1, _⟩ := h
          exact SqL.of hb1
        · obtain ⟨kv2, v5, v6, rfl, e7, hq7, hdv7, hb7, hrv7, hp7, ⟨ks, hk1, hk2, hk3⟩, hval7, hmono, hall7⟩ := h
          obtain ⟨r, hr7, a, ra, lc, cv, rfl, ha7, hra, hlc7, hcv7, nlc7⟩ := hrv7.get hj
          have hrm : r.1 ∈ rowsF fs c d := List.mem_map.mpr ⟨r, List.mem_of_getElem? hr7, rfl⟩
          have hin := rowIn_of gf hrm
          have hinB : RowB fs r.1.n r := by
            obtain ⟨fz, hz1⟩ := rows_from gf hrm
            exact ⟨fz, c, d, hz1, List.mem_of_getElem? hr7, rfl⟩
          have hkl : kv2.length ≤ 200 := by
            have e := congrArg List.length hk1
            rw [List.length_map, List.length_map] at e
            have := nodup_sub_len hk2 hk3
            rw [List.length_map] at this
            omega
          walk_at "z"
          refine s_tDPut ?_
          walk_at "z"
          rename_i b2 H8 _ e8 hb8
          walk_at "z"
          refine s_dputI (e8 _ _ hp7) (by omega) fun H9 f9 hp9 => ?_
          have tk9 := tk_dK (K := K) f9 (e8 _ _ hp7)
          have tkA := e8.tk.trans tk9
          obtain ⟨ks', k1, k2, k3⟩ := keys_put hk1 hk2 r.1.n (.ref b2)
          refine ⟨_, _, _, rfl, (e7.trans e8).fr2 np f9, f9 _ _ npq (e8 _ _ hq7), tis_all tkA hdv7, f9 _ _ nbp (e8 _ _ hb7), hrv7.mono fun _ _ z => (z.ex e8).frd f9 (e8 _ _ hp7), hp9, ⟨ks', k1, k2, fun x hx => ?_⟩, fun x v hv => ?_, fun x hx => ?_, fun j' r' hj' hr' => ?_⟩
          · rcases k3 x hx with rfl | hx
            · exact rowIn_mem hin
            · exact hk3 x hx
          · rw [valV_put] at hv
            split at hv
            · rename_i hq'
              cases hv
              injection hq' with hq'
              rw [hq']
              exact ⟨r, hinB, b2, ra, lc, cv, rfl, tk9 _ _ (SqT.of hb8), tkA _ _ hra, f9 _ _ (ne_of (e8 _ _ hlc7) (e8 _ _ hp7) (fun z => by cases z)) (e8 _ _ hlc7), pairAt_tk tkA hcv7, nlc7⟩
            · obtain ⟨r', z1, z2⟩ := hval7 x v hv
              exact ⟨r', z1, (z2.ex e8).frd f9 (e8 _ _ hp7)⟩
          · rw [valV_put]
            split
            · rfl
            · exact hmono x hx
          · rw [valV_put]
            split
            · rfl
            · rename_i hne
              rcases Nat.lt_succ_iff_lt_or_eq.mp hj' with q1 | q1
              · exact hall7 j' r' q1 hr'
              · subst q1
                rw [hr7] at hr'
                cases hr'
                exact absurd rfl hne
        · obtain ⟨kv2, v5, v6, rfl, e7, hq7, hdv7, hb7, hrv7, hp7, hks7, hval7, hmono, hall7⟩ := h
          refine ⟨kv2, _, _, _, _, rfl, e7, hq7, hdv7, hp7, hks7, hval7, fun j c' d' hj hcd r hr => ?_⟩
          rcases Nat.lt_succ_iff_lt_or_eq.mp hj with q1 | q1
          · exact hmono _ (hall j c' d' q1 hcd r hr)
          · subst q1
            rw [hk] at hcd
            cases hcd
            obtain ⟨x, hx, rfl⟩ := List.mem_map.mp hr
            obtain ⟨j', hj'⟩ := List.getElem?_of_mem hx
            exact hall7 j' x (by rw [hrv7.len]; exact (List.getElem?_eq_some_iff.mp hj').1) hj'
      · obtain ⟨kvs, v3, v4, v5, v6, rfl, e5, hq5, hdv5, hp5, hks, hval, hall⟩ := h
        walk_at "z"
        refine k p kvs H5 np e5 hp5 ⟨hval, fun n f c d hp' => ?_, hks⟩
        obtain ⟨j, hj⟩ := List.getElem?_of_mem (hds.all n f c d hp')
        obtain ⟨r, hr, hrm⟩ := rowIn_ex hp'
        have hn : r.n = n := by
          obtain ⟨_, _, _, _, _, e⟩ := hr
          exact e
        have := hall j c d (by rw [hdv5.len]; exact (List.getElem?_eq_some_iff.mp hj).1) hj r hrm
        rwa [hn] at this

theorem rising_ext : ∀ {a b : List Int}, Rising a → Rising b → (∀ x, x ∈ a ↔ x ∈ b) → a = b
  | [], [], _, _, _ => rfl
  | [], y :: b, _, _, h => absurd ((h y).mpr List.mem_cons_self) (by simp)
  | x :: a, [], _, _, h => absurd ((h x).mp List.mem_cons_self) (by simp)
  | x :: a, y :: b, ha, hb, h => by
    unfold Rising at ha hb
    rw [List.pairwise_cons] at ha hb
    have e : x = y := by
      have h1 := (h x).mp List.mem_cons_self
      have h2 := (h y).mpr List.mem_cons_self
      rw [List.mem_cons] at h1 h2
      rcases h1 with h1 | h1
      · exact h1
      · rcases h2 with h2 | h2
        · exact h2.symm
        · have := hb.1 x h1
          have := ha.1 y h2
          omega
    subst e
    rw [rising_ext ha.2 hb.2 fun z => ?_]
    constructor
    · intro hz
      have h1 := (h z).mp (List.mem_cons_of_mem _ hz)
      rw [List.mem_cons] at h1
      rcases h1 with rfl | h1
      · have := ha.1 z hz
        omega
      · exact h1
    · intro hz
      have h1 := (h z).mpr (List.mem_cons_of_mem _ hz)
      rw [List.mem_cons] at h1
      rcases h1 with rfl | h1
      · have := hb.1 z hz
        omega
      · exact h1

theorem brd_eq {g d : Int} {fs : List (Int × Fct)} {a b : List Int} (ha : Brd g d fs a) (hb : Brd g d fs b) : a = b := rising_ext ha.1 hb.1 fun x => (ha.2 x).trans (hb.2 x).symm
theorem brd_len {g d : Int} {fs : List (Int × Fct)} {a : List Int} (ha : Brd g d fs a) (hg : R 0 7 g) (gf : GFs fs) : a.length ≤ 8 := by
  refine len_rising (n := 8) (a := 0) ha.1 fun y hy => ?_
  obtain ⟨gs, eg, _, hgb⟩ := hold_board (g := g) (d := d) gf
  rcases (ha.2 y).mp hy with rfl | ⟨gs', e, h⟩
  · exact ⟨hg.1, by have := hg.2; omega⟩
  · rw [eg] at e
    injection e with e
    rw [← e] at h
    have := hgb y h
    exact ⟨this.1, by have := this.2; omega⟩
theorem dok_ints' (l : List Int) (h : l.length ≤ 1000) : DOk 3 (.tuple (l.map PyData.int)) := by
  refine ⟨by rw [List.length_map]; exact h, fun d hd => ?_⟩
  obtain ⟨n, _, rfl⟩ := List.mem_map.mp hd
  trivial
/-! the facts are plain data, two deep -/
theorem lay_ints : ∀ l : List Int, PyData.canLayAll0 (l.map PyData.int) = true ∧ PyData.depthAll (l.map PyData.int) ≤ 1
  | [] => ⟨rfl, by decide⟩
  | x :: l => by
    obtain ⟨h1, h2⟩ := lay_ints l
    rw [List.map_cons]
    exact ⟨by unfold PyData.canLayAll0; rw [h1]; rfl, by unfold PyData.depthAll; unfold PyData.depth; omega⟩
theorem lay_arg (x : Arg) : PyData.canLay0 x.enc = true ∧ PyData.depth x.enc ≤ 2 := by
  cases x with
  | i n => exact ⟨rfl, by unfold Arg.enc PyData.depth; omega⟩
  | t l =>
    obtain ⟨h1, h2⟩ := lay_ints l
    unfold Arg.enc
    exact ⟨h1, by unfold PyData.depth; omega⟩
theorem lay_args : ∀ l : List Arg, PyData.canLayAll0 (l.map Arg.enc) = true ∧ PyData.depthAll (l.map Arg.enc) ≤ 2
  | [] => ⟨rfl, by decide⟩
  | x :: l => by
    obtain ⟨h1, h2⟩ := lay_args l
    obtain ⟨h3, h4⟩ := lay_arg x
    rw [List.map_cons]
    exact ⟨by unfold PyData.canLayAll0; rw [h1, h3]; rfl, by unfold PyData.depthAll; omega⟩
theorem lay_fct {f : Fct} (h : PyData.strOk f.w = true) : PyData.canLay0 f.enc = true ∧ PyData.depth f.enc ≤ 3 := by
  obtain ⟨h1, h2⟩ := lay_args f.xs
  unfold Fct.enc
  refine ⟨?_, ?_⟩
  · unfold PyData.canLay0 PyData.canLayAll0
    rw [h1]
    unfold PyData.canLay0
    rw [h]
    rfl
  · unfold PyData.depth PyData.depthAll
    unfold PyData.depth
    omega
theorem lay_facts : ∀ fs : List (Int × Fct), (∀ p ∈ fs, GF p.2) → PyData.canLayAll0 (fs.map encP) = true ∧ PyData.depthAll (fs.map encP) ≤ 4
  | [], _ => ⟨rfl, by decide⟩
  | p :: fs, hg => by
    obtain ⟨h1, h2⟩ := lay_facts fs fun q hq => hg q (List.mem_cons_of_mem _ hq)
    obtain ⟨h3, h4⟩ := lay_fct (gf_strOk (hg p List.mem_cons_self))
    have h5 : PyData.canLay0 (encP p) = true := by
      unfold encP PyData.canLay0 PyData.canLayAll0 PyData.canLayAll0 PyData.canLayAll0
      rw [h3]
      rfl
    have h6 : PyData.depth (encP p) ≤ 4 := by
      unfold encP
      simp only [PyData.depth, PyData.depthAll]
      omega
    rw [List.map_cons]
    exact ⟨by unfold PyData.canLayAll0; rw [h1, h5]; rfl, by unfold PyData.depthAll; omega⟩
theorem eqv_facts {fs : List (Int × Fct)} (h : GFs fs) : PyData.eqv (.list (fs.map encP)) (.list (fs.map encP)) = true := SeqAt.eqv_refl _ (lay_facts fs h.good).1
theorem shaped_facts {fs : List (Int × Fct)} (h : GFs fs) : SeqAt.shaped (.list (fs.map encP)) = true := by
  obtain ⟨h1, h2⟩ := lay_facts fs h.good
  unfold SeqAt.shaped
  rw [Bool.and_eq_true]
  refine ⟨h1, decide_eq_true ?_⟩
  unfold PyData.depth
  omega
theorem s_neFacts {H : Hp} {Q : VK} {p q : Addr} {fs : List (Int × Fct)} (h1 : RL K H p fs) (h2 : RL K H q fs) (gf : GFs fs) (k : Q (.bl false) H) : rNeD K (.ref p) (.ref q) H Q := by
  have z := shaped_facts gf
  refine ⟨_, _, rl_dp h1, rl_dp h2, z, z, ?_⟩
  rw [eqv_facts gf]
  exact k

theorem dp_rows {H : Hp} : ∀ {vs : List V} {rs : List Row}, All2 (RowAt K H) vs rs → DpAll K H vs (rs.map Row.d)
  | _, _, .nil => .nil
  | _, _, .cons h r => by
    obtain ⟨a, rfl, ha⟩ := h
    exact .cons (row_dp ha) (dp_rows r)
theorem tk_pull {H H' : Hp} {b c : Addr} (e : Fr b H H') (B : Bag H b c) : Tk K H H' := by
  obtain ⟨ys, hb⟩ := B.getb
  exact tk_lst e hb
theorem dok_row (r : Row) : DOk 3 r.d := by
  refine ⟨by show 4 ≤ 1000; decide, fun d hd => ?_⟩
  obtain ⟨n, wd, b, h⟩ := r
  simp only [List.mem_cons, List.not_mem_nil, or_false] at hd
  rcases hd with rfl | rfl | rfl | rfl
  · trivial
  · trivial
  · cases b <;> trivial
  · trivial
theorem dok_rows {l : List Row} (h : l.length ≤ 1000) : DOk 4 (.list (l.map Row.d)) := by
  refine ⟨by rw [List.length_map]; exact h, fun d hd => ?_⟩
  obtain ⟨r, _, rfl⟩ := List.mem_map.mp hd
  exact dok_row r
/-- 36 or 110 -/
theorem if_most {z x y : Int} {σ : L2.St} {H : Hp} {Q : VK} (k : ∀ n, n = x ∨ n = y → Q (.int n) H) : if decide (z > 0) = true then tC (.int x) σ H Q else tC (.int y) σ H Q := by
  split
  · exact k _ (.inl rfl)
  · exact k _ (.inr rfl)

theorem key_val {kvs : List (Key × V)} {ks : List Int} (h : kvs.map (·.1) = ks.map Sum.inl) {x : Int} (hx : x ∈ ks) : ∃ v, valV kvs (Sum.inl x) = some v := by
  have : (Sum.inl x : Key) ∈ kvs.map (·.1) := by
    rw [h]
    exact List.mem_map.mpr ⟨x, hx, rfl⟩
  obtain ⟨p, hp, he⟩ := List.mem_map.mp this
  unfold valV
  cases e : kvs.find? (fun p => decide (p.1 = (Sum.inl x : Key))) with
  | some q => exact ⟨q.2, rfl⟩
  | none => exact absurd (decide_eq_true he) (List.find?_eq_none.mp e p hp)
theorem walk_one {fs : List (Int × Fct)} (gf : GFs fs) {c d : Int} {x y : Row × Bars} (hx : x ∈ walkF fs c d) (hy : y ∈ walkF fs c d) (h : x.1.n = y.1.n) : x = y := by
  have nd : ((walkF fs c d).map (·.1.n)).Nodup := by
    rw [walk_ns]
    exact ord_nd gf c d
  exact map_nodup_inj nd hx hy h
theorem rowB_one {fs : List (Int × Fct)} (gf : GFs fs) {n : Int} {x y : Row × Bars} (hx : RowB fs n x) (hy : RowB fs n y) : x = y := by
  obtain ⟨f, c, d, hp, h1, h2⟩ := hx
  obtain ⟨f', c', d', hp', h1', h2'⟩ := hy
  obtain ⟨_, rfl, rfl⟩ := isPass_cd gf hp hp'
  exact walk_one gf h1 h1' (h2.trans h2'.symm)
def barD (b : Int × Str) : PyData := .tuple [.int b.1, .str b.2]
theorem pair_dp {H : Hp} (v : V) (b : Int × Str) (h : PairAt K H v b) : Dp K H v (barD b) := by
  obtain ⟨a, rfl, ha⟩ := h
  exact .tup ha (.cons (.int _) (.cons (.str _) .nil))
theorem chk_dp {H : Hp} : ∀ {vs : List V} {xs : Bars}, All2 (ChkAt K H) vs xs → (∀ b ∈ xs, b.2 ≠ "") → DpAll K H vs (xs.map barD)
  | _, _, .nil, _ => .nil
  | _, b :: bs, .cons h r, hn => by
    obtain ⟨a, rfl, ha⟩ := h
    have hb := hn b List.mem_cons_self
    unfold markV at ha
    rw [if_neg hb] at ha
    exact .cons (.tup ha (.cons (.int _) (.cons (.str _) .nil))) (chk_dp r fun x hx => hn x (List.mem_cons_of_mem _ hx))
theorem noE_ne {l : Bars} : ∀ b ∈ noE l, b.2 ≠ "" := fun b hb => by
  unfold noE at hb
  have := (List.mem_filter.mp hb).2
  simpa using this
theorem noE_len {l : Bars} : (noE l).length ≤ l.length := by
  unfold noE
  exact List.length_filter_le _ _
theorem dok_bars {l : Bars} (h : l.length ≤ 1000) : DOk 3 (.list ((noE l).map barD)) := by
  refine ⟨by rw [List.length_map]; exact Nat.le_trans noE_len h, fun d hd => ?_⟩
  obtain ⟨b, _, rfl⟩ := List.mem_map.mp hd
  refine ⟨by show 2 ≤ 1000; decide, fun d hd => ?_⟩
  simp only [List.mem_cons, List.not_mem_nil, or_false] at hd
  rcases hd with rfl | rfl <;> trivial
def NoPass (fs : List (Int × Fct)) (n : Int) : Prop := ∀ f, (n, f) ∈ fs → f.w ≠ "pass"
def spTold09 (K : PySem.W.Frag) : Sp := fun vs H Q _ => ∃ (l : Addr) (n : Int) (fs : List (Int × Fct)), vs = [.ref l, .int n] ∧ RL K H l fs ∧ GFs fs ∧ fs.length ≤ 1000 ∧ (NoPass fs n → n.natAbs.log2 < 1920) ∧
  (∀ y p xs H', RowB fs n y → H p = none → Ex H H' → H' p = some (.lst xs) → All2 (ChkAt K H') xs (noE y.2) → Q (.ref p) H') ∧
  (NoPass fs n → ∀ p H', H p = none → Ex H H' → H' p = some (.lst [.str "NoPassing", .int n]) → Q (.ref p) H')
theorem sc_l_told : FnScope ["_law_facts_here", "_law_number", "e"] ["_law_facts_here", "_law_number"] (defScope s_l_told) :=
  ⟨rfl, rfl, rfl, by decide +kernel, rfl, by decide +kernel, by decide +kernel⟩
theorem ok_l_told (T : Tx P K mg w) : FnOk P w K mg base CX0 7 T.f_l_told T.d_l_told ["_law_facts_here", "_law_number"] (spTold09 K) := by
  refine T.F_l_told.ok sc_l_told (fun vs H Q E h => ?_) (fun cdv A outer s H vs Q E hr h => ?_)
  · obtain ⟨l, n, fs, rfl, _⟩ := h
    rfl
  · obtain ⟨l, n, fs, rfl, rl, gf, hz, hlog, k1, k2⟩ := h
    refine ⟨_, (pss_one (ps_try_mix rfl rfl sc_l_told.nd takes0 (fun W pn xe tk po => (pss_one (ps_ret (pe_callS (ok_p_why T) (hr.mono (by decide)) rfl T.g_p_why T.F_p_why.kp T.b_p_why (fun σ => passAt tk σ) (pa_cons (pv 0) (pa_cons (pv 1) pa_nil)))))) (HdsM.as (i := 2) rfl rfl ⟨rfl, by decide, .inl T.g_NoPassing⟩ (fun a oe cls d pn hz hf => (pss_one (ps_ret (pe_lst (pa_cons pe_str (pa_cons (pe_xf T.xf_NoPassing T.no_NoPassing hz hf (pv 2)) pa_nil)))))) HdsM.nil))), ?_⟩
    refine at_start (ρ' := [some _, some _, none]) rfl ?_
    walk_at "z0"
    walk_at "z"
    by_cases hp : ∃ f, (n, f) ∈ fs ∧ f.w = "pass"
    · obtain ⟨f, hm, hw⟩ := hp
      obtain ⟨c, d, hp⟩ := isPass_of gf hm hw
      exact .inl ⟨l, n, c, d, f, fs, rfl, rl, gf, hz, hp, fun p xs x H' np e hx hn h1 h2 => k1 x p xs H' ⟨f, c, d, hp, hx, hn⟩ np e h1 h2⟩
    · have hno : NoPass fs n := fun f hm hw => hp ⟨f, hm, hw⟩
      refine .inr ⟨l, n, fs, rfl, rl, gf, hno, hlog hno, fun d hd => ?_⟩
      refine ⟨true, T.e_NoPassing, fun _ a ha => ?_, fun q => nomatch q⟩
      dsimp only
      have e1 : Ex H (upd H d (.xd [("number", .int n), ("called", .str "NoPassing")])) := Ex.new hd
      walk_at "z"
      refine ⟨.ref a, rfl, rfl, rfl, d, _, _, rfl, upd_same, rfl, ?_⟩
      walk_at "z"
      rename_i p H2 np e2 hp2
      exact k2 hno p H2 (Ex.back e1 np) (e1.trans e2) hp2
/-- what is due for a number -/
def DueB (K : PySem.W.Frag) (H : Hp) (fs : List (Int × Fct)) (n : Int) (v : V) : Prop :=
  (∀ y, RowB fs n y → ∃ lc cv, v = .ref lc ∧ H lc = some (.lst cv) ∧ All2 (PairAt K H) cv (noE y.2)) ∧ (NoPass fs n → ∃ p, v = .ref p ∧ H p = some (.lst [.str "NoPassing", .int n]))
theorem DueB.ex {H H' : Hp} {fs : List (Int × Fct)} {n : Int} {v : V} (h : DueB K H fs n v) (e : Ex H H') : DueB K H' fs n v :=
  ⟨fun y hy => by
    obtain ⟨lc, cv, h1, h2, h3⟩ := h.1 y hy
    exact ⟨lc, cv, h1, e _ _ h2, pairAt_tk e.tk h3⟩, fun hn => by
    obtain ⟨p, h1, h2⟩ := h.2 hn
    exact ⟨p, h1, e _ _ h2⟩⟩
theorem rowB_pass {fs : List (Int × Fct)} {n : Int} {y : Row × Bars} (h : RowB fs n y) (hn : NoPass fs n) : False := by
  obtain ⟨f, c, d, ⟨hm, _, _, _, rfl, _⟩, _⟩ := h
  exact hn _ hm rfl
structure L09 (K : PySem.W.Frag) (H0 H : Hp) (l q m s : Addr) (us ss : List V) (fs : List (Int × Fct)) (kvs : List (Key × V)) : Prop where
  cl : H l = some (.lst us)
  cq : H q = some (.lst us)
  cm : H m = some (.dK kvs)
  cs : H s = some (.lst ss)
  rf : RFs K H us fs
  hd : LBarsD K H0 H fs kvs
section
variable {H0 H H' : Hp} {l q m s : Addr} {us ss : List V} {fs : List (Int × Fct)} {kvs : List (Key × V)}
theorem L09.ex (h : L09 K H0 H l q m s us ss fs kvs) (e : Ex H H') : L09 K H0 H' l q m s us ss fs kvs := ⟨e _ _ h.cl, e _ _ h.cq, e _ _ h.cm, e _ _ h.cs, rfs_ex e h.rf, h.hd.ex e⟩
theorem L09.pull {b c : Addr} (h : L09 K H0 H l q m s us ss fs kvs) (f : Fr b H H') (B : Bag H b c) (h0 : H0 b ≠ none) (n1 : l ≠ b) (n2 : q ≠ b) (n3 : m ≠ b) (n4 : s ≠ b) : L09 K H0 H' l q m s us ss fs kvs := by
  obtain ⟨ys, hb⟩ := B.getb
  exact ⟨f _ _ n1 h.cl, f _ _ n2 h.cq, f _ _ n3 h.cm, f _ _ n4 h.cs, rfs_pull f B h.rf, h.hd.frl f hb h0⟩
theorem L09.rl (h : L09 K H0 H l q m s us ss fs kvs) : RL K H l fs := ⟨us, SqL.of h.cl, h.rf⟩
theorem L09.rq (h : L09 K H0 H l q m s us ss fs kvs) : RL K H q fs := ⟨us, SqL.of h.cq, h.rf⟩
end
theorem sc_law : FnScope ["_law_script", "_law_bag_here", "_law_facts_here", "_law_handed", "_law_rows_here", "_law_numbers", "_law_turn", "_law_number", "_law_due", "_law_step", "_law_found"] ["_law_script"] (defScope s_law) :=
  ⟨rfl, rfl, rfl, by decide +kernel, rfl, by decide +kernel, by decide +kernel⟩
theorem ok_law (T : Tx P K mg w) {f : Addr} {fd : FuncData} (F : Fun K "law" "law" s_law f fd) : FnOk P w K mg base CX0 10 f fd ["_law_script"] (spLaw K) := by
  refine F.ok sc_law (fun vs H Q E h => ?_) (fun cdv A outer s H vs Q E hr h => ?_)
  · obtain ⟨a, ns, rfl, _⟩ := h
    rfl
  · obtain ⟨a, ns, rfl, hS, hl, k⟩ := h
    refine ⟨_, (pss_cons (ps_set (i := 1) sc_law.nd rfl (Or.inl rfl) (pe_call (ok_l_bag T) (hr.mono (by decide)) rfl T.g_l_bag T.F_l_bag.kp T.b_l_bag .nil pass0 (pa_cons (pv 0) pa_nil))) (pss_cons (ps_set (i := 2) sc_law.nd rfl (Or.inl rfl) (pe_call (ok_l_facts T) (hr.mono (by decide)) rfl T.g_l_facts T.F_l_facts.kp T.b_l_facts .nil pass0 (pa_cons (pv 1) (pa_cons (pe_ifExp (pt_cmpR op_gt (pe_call (ok_l_pull T) (hr.mono (by decide)) rfl T.g_l_pull T.F_l_pull.kp T.b_l_pull .nil pass0 (pa_cons (pv 1) (pa_cons pe_int pa_nil))) pe_int (nomark _)) pe_int pe_int) pa_nil)))) (pss_cons (ps_set (i := 3) sc_law.nd rfl (Or.inl rfl) (pe_callTy (r := rListOf K) cz_listOf (by rfl) T.z_list (by decide +kernel) (pa_cons (pv 2) pa_nil))) (pss_cons (ps_set (i := 4) sc_law.nd rfl (Or.inl rfl) (pe_call (ok_l_rows T) (hr.mono (by decide)) rfl T.g_l_rows T.F_l_rows.kp T.b_l_rows .nil pass0 (pa_cons (pv 2) pa_nil))) (pss_cons (ps_set (i := 5) sc_law.nd rfl (Or.inl rfl) (pe_op op_cat (pe_callB (r := rSortDG) (cr_sortDG rfl) (by rfl) T.z_sorted (by decide +kernel) (pa_cons (pv 4) pa_nil)) (pe_lst (pa_cons pe_int (pa_cons pe_int pa_nil))))) (pss_cons (ps_for PassesOwn.never rfl (pi_range1 (by rfl) T.z_range (pa_cons pe_int pa_nil)) (pg_name (i := 6) sc_law.nd rfl (Or.inl rfl)) (pss_cons (ps_set (i := 7) sc_law.nd rfl (Or.inl rfl) (pe_ix (r := rIxL K) ix_list (pv 5) (pe_call (ok_l_pull T) (hr.mono (by decide)) rfl T.g_l_pull T.F_l_pull.kp T.b_l_pull .nil pass0 (pa_cons (pv 1) (pa_cons (pe_callB (r := Z.rLen K) cz_len (by rfl) T.z_len PySem.boot_len (pa_cons (pv 5) pa_nil)) pa_nil))) (fun _ _ => rfl))) (Evl.pss_cut (ps_if (pt_cmpR op_eq (pe_call (ok_l_pull T) (hr.mono (by decide)) rfl T.g_l_pull T.F_l_pull.kp T.b_l_pull .nil pass0 (pa_cons (pv 1) (pa_cons pe_int pa_nil))) pe_int (nomark _)) (pss_one (ps_set (i := 7) sc_law.nd rfl (Or.inl rfl) (pe_call (ok_l_far T) (hr.mono (by decide)) rfl T.g_l_far T.F_l_far.kp T.b_l_far .nil pass0 (pa_cons (pv 1) pa_nil)))) pss_nil) (Evl.pss_cut (ps_set (i := 8) sc_law.nd rfl (Or.inl rfl) (pe_ifExp (pt_cmp (pc_din (hu_of hr) (pv 7) (pv 4))) (pe_ix (r := rIxT K) ix_tup (pe_dget (hu_of hr) (pv 4) (pv 7) (fun _ _ => rfl)) pe_int (fun _ _ => rfl)) (pe_lst (pa_cons pe_str (pa_cons (pv 7) pa_nil))))) (pss_one (ps_for PassesOwn.never rfl (pi_range1 (by rfl) T.z_range (pa_cons pe_int pa_nil)) (pg_name (i := 9) sc_law.nd rfl (Or.inl rfl)) (pss_cons (ps_set (i := 10) sc_law.nd rfl (Or.inl rfl) (pe_call (ok_l_told T) (hr.mono (by decide)) rfl T.g_l_told T.F_l_told.kp T.b_l_told .nil pass0 (pa_cons (pv 3) (pa_cons (pv 7) pa_nil)))) (pss_cons (ps_if (PW.pt (pw_or (pt_not (pt_val (pe_call (ok_l_like T 3) (hr.mono (by decide)) rfl T.g_l_like T.F_l_like.kp T.b_l_like .nil pass0 (pa_cons (pv 10) (pa_cons (pv 8) pa_nil))))) (pw_or1 (pt_cmpR (r := rNeD K) (op_neD hr.units) (pv 3) (pv 2) (nomark _))))) (pss_one (ps_ret pe_bl)) pss_nil) (pss_one (ps_expr (pe_bm PySem.F.plainAttrs_list PySem.F.slot_list_append PySem.F.type_list_append mt_append (pv 10) (pa_cons pe_int pa_nil)))))))))))) (pss_one (ps_ret pe_bl)))))))), ?_⟩
    refine at_start (ρ' := [some _, none, none, none, none, none, none, none, none, none, none]) rfl ?_
    walk_at "z0"
    walk_at "z"
    refine ⟨a, ns, rfl, hS, hl, fun b c H1 nb nc e1 B => ?_⟩
    clear hS hl
    walk_at "z"
    rename_i z0 H1b z01 z02 B1 f1
    refine if_most fun most hmost => ?_
    walk_at "z"
    refine ⟨b, c, most, rfl, by omega, by omega, B1, fun l us fs H2 nl hl hf gf hz B2 f2 => ?_⟩
    have hlb : l ≠ b := B1.neb nl
    have hlen := rfs_len hf
    have hfl : fs.length ≤ 110 := by omega
    clear B B1 f1 f2 hz hmost
    walk_at "z"
    rename_i q H3 nq e3 hq
    have hqb : q ≠ b := B2.neb nq
    replace hl := e3 _ _ hl
    replace hf := rfs_ex e3 hf
    replace B2 := B2.ext e3
    clear e3 nq nl
    walk_at "z"
    refine ⟨l, fs, rfl, ⟨us, SqL.of hl, hf⟩, gf, by omega, fun m kvs H4 nm e4 hm hrd => ?_⟩
    have hmb : m ≠ b := B2.neb nm
    have h0 : H3 b ≠ none := by
      obtain ⟨ys, hb⟩ := B2.getb
      rw [hb]
      exact fun z => nomatch z
    obtain ⟨ks, hk1, hk2, hk3⟩ := hrd.keys
    have hkl : ks.length ≤ fs.length := by
      have := nodup_sub_len (m := fs.map (·.1)) hk2 hk3
      rwa [List.length_map] at this
    walk_at "z"
    refine s_sortDG hm hk1 (by omega) fun ys so H5 h1 h2 nso e5 hso => ?_
    walk_at "z"
    rename_i t0 H6 n6 e6 ht0
    have hyl : ys.length ≤ 110 := by rw [h1.length_eq]; omega
    refine s_catL (e6 _ _ hso) ht0 (sz (by rw [List.length_map]; show ys.length + 2 ≤ 100000; omega)) ?_
    walk_at "z"
    rename_i s2 H7 ns2 e7 hs2
    have e47 := (e5.trans e6).trans e7
    have hsb : s2 ≠ b := (B2.ext ((e4.trans e5).trans e6)).neb ns2
    have hsv : ∀ v ∈ ys.map V.int ++ [V.int 0, V.int 99], ∃ n : Int, v = .int n ∧ (n ∈ ks ∨ (-(2 ^ 200) ≤ n ∧ n ≤ 2 ^ 200)) := fun v hv => by
      rcases List.mem_append.mp hv with hv | hv
      · obtain ⟨n, hn, rfl⟩ := List.mem_map.mp hv
        exact ⟨n, rfl, .inl (h1.mem_iff.mp hn)⟩
      · simp only [List.mem_cons, List.not_mem_nil, or_false] at hv
        rcases hv with rfl | rfl
        · exact ⟨0, rfl, .inr ⟨by decide, by decide⟩⟩
        · exact ⟨99, rfl, .inr ⟨by decide, by decide⟩⟩
    have hsl : (ys.map V.int ++ [V.int 0, V.int 99]).length ≤ 112 := by
      rw [List.length_append, List.length_map]
      show ys.length + 2 ≤ 112
      omega
    have hsl0 : 0 < (ys.map V.int ++ [V.int 0, V.int 99]).length := by simp
    have W : L09 K H3 H7 l q m s2 us (ys.map V.int ++ [V.int 0, V.int 99]) fs kvs := ⟨(e4.trans e47) _ _ hl, (e4.trans e47) _ _ hq, e47 _ _ hm, hs2, rfs_ex (e4.trans e47) hf, hrd.ex e47⟩
    have B7 := B2.ext (e4.trans e47)
    have kpass : ∀ n, n ∈ ks → ∃ y, RowB fs n y := fun n hn => by
      obtain ⟨v, hv⟩ := key_val hk1 hn
      obtain ⟨y, hy, _⟩ := hrd.val n v hv
      exact ⟨y, hy⟩
    generalize ys.map V.int ++ [V.int 0, V.int 99] = ss at hsv hsl hsl0 W
    clear hl hq hf hm hrd hso ht0 hs2 e4 e5 e6 e7 e47 B2 nm nso n6 ns2 hk1 hk2 hk3 h1 h2
    walk_at "z"
    refine l_range ⟨by decide, by decide⟩ (fun i σ H' => ∃ v6 v7 v8 v9 v10, σ = [some (.ref a), some (.ref b), some (.ref l), some (.ref q), some (.ref m), some (.ref s2), v6, v7, v8, v9, v10] ∧ L09 K H3 H' l q m s2 us ss fs kvs ∧ Bag H' b c) ⟨_, _, _, _, _, rfl, W, B7⟩ (fun i σ H' hi h => ?_) (fun σ H' h => ?_)
    · clear W B7
      obtain ⟨v6, v7, v8, v9, v10, rfl, W, B⟩ := h
      have hcs := W.cs
      walk_at "z"
      rename_i z1 H8 z10 z11 B8 f8
      replace W := W.pull f8 B h0 hlb hqb hmb hsb
      clear B f8 hcs
      refine s_ixP (fun v => ∃ n : Int, v = .int n ∧ (n ∈ ks ∨ (-(2 ^ 200) ≤ n ∧ n ≤ 2 ^ 200))) (SqL.of W.cs) ⟨z10, z11⟩ hsv fun v ⟨nn, ev, hnn⟩ => ?_
      subst ev
      walk_at "z"
      refine s_cut (fun ρ H' => ∃ n : Int, ρ = [some (.ref a), some (.ref b), some (.ref l), some (.ref q), some (.ref m), some (.ref s2), some (.int i), some (.int n), v8, v9, v10] ∧ (n ∈ ks ∨ (-(2 ^ 200) ≤ n ∧ n ≤ 2 ^ 200)) ∧ L09 K H3 H' l q m s2 us ss fs kvs ∧ Bag H' b c) ?_ fun ρ H9 h => ?_
      · walk_at "z"
        rename_i z2 H9 z20 z21 B9 f9
        replace W := W.pull f9 B8 h0 hlb hqb hmb hsb
        clear B8 f9
        refine ite_dec (fun h1 => ?_) (fun h1 => ?_)
        · walk_at "z"
          rename_i z3 H10 z30 z31 B10 f10
          exact ⟨z3, rfl, .inr ⟨by omega, by omega⟩, W.pull f10 B9 h0 hlb hqb hmb hsb, B10⟩
        · walk_at "z"
          exact ⟨nn, rfl, hnn, W, B9⟩
      clear W B8 hnn
      obtain ⟨n, rfl, hn, W, B9⟩ := h
      have hlog : NoPass fs n → n.natAbs.log2 < 1920 := fun hno => by
        rcases hn with hn | hn
        · obtain ⟨y, hy⟩ := kpass n hn
          exact (rowB_pass hy hno).elim
        · exact log_small hn.1 hn.2
      clear hn
      refine s_cut (fun ρ H' => ∃ v, ρ = [some (.ref a), some (.ref b), some (.ref l), some (.ref q), some (.ref m), some (.ref s2), some (.int i), some (.int n), some v, v9, v10] ∧ DueB K H' fs n v ∧ L09 K H3 H' l q m s2 us ss fs kvs ∧ Bag H' b c) ?_ fun ρ H10 h => ?_
      · walk_at "z"
        refine s_tDIn ?_
        walk_at "z"
        refine s_dinI W.cm ?_
        cases e : valV kvs (Sum.inl n) with
        | some v =>
          obtain ⟨y, hy, a1, ra, lc, cv, rfl, ha1, hra, hlc, hcv, nlc⟩ := W.hd.val n v e
          walk_at "z"
          refine s_tDGet ?_
          walk_at "z"
          refine s_dgetI W.cm e ?_
          walk_at "z"
          refine ⟨.ref lc, rfl, ⟨fun y' hy' => ?_, fun hno => (rowB_pass hy hno).elim⟩, W, B9⟩
          rw [rowB_one gf hy' hy]
          exact ⟨lc, cv, rfl, hlc, hcv⟩
        | none =>
          walk_at "z"
          rename_i p H11 np e11 hp
          refine ⟨.ref p, rfl, ⟨fun y hy => ?_, fun _ => ⟨p, rfl, hp⟩⟩, W.ex e11, B9.ext e11⟩
          obtain ⟨f1, c1, d1, hp1, _⟩ := hy
          have := W.hd.all n f1 c1 d1 hp1
          rw [e] at this
          cases this
      clear W B9
      obtain ⟨v, rfl, hdue, W, B⟩ := h
      walk_at "z"
      refine l_range ⟨by decide, by decide⟩ (fun j σ H' => ∃ v9 v10, σ = [some (.ref a), some (.ref b), some (.ref l), some (.ref q), some (.ref m), some (.ref s2), some (.int i), some (.int n), some v, v9, v10] ∧ DueB K H' fs n v ∧ L09 K H3 H' l q m s2 us ss fs kvs ∧ Bag H' b c) ⟨_, _, rfl, hdue, W, B⟩ (fun j σ H' hj h => ?_) (fun σ H' h => ?_)
      · clear hdue W B
        obtain ⟨v9, v10, rfl, hdue, W, B⟩ := h
        walk_at "z"
        refine ⟨q, n, fs, rfl, W.rq, gf, by omega, hlog, fun y p xs H13 hy np e13 hp hxs => ?_, fun hno p H13 np e13 hp => ?_⟩
        · obtain ⟨lc, cv, rfl, hlc, hcv⟩ := hdue.1 y hy
          have hyl : y.2.length ≤ 1000 := by
            obtain ⟨f1, c1, d1, _, hy1, _⟩ := hy
            have := bars_len y hy1
            omega
          have hxl : xs.length ≤ 1000 := by
            rw [hxs.len]
            exact Nat.le_trans noE_len hyl
          have dx : Dp K H13 (.ref p) (.list ((noE y.2).map barD)) := .lst (SqL.of hp) (chk_dp hxs noE_ne)
          have dy : Dp K H13 (.ref lc) (.list ((noE y.2).map barD)) := .lst (SqL.of (e13 _ _ hlc)) (all2_dp barD (pair_dp (K := K) (H := H13)) (pairAt_tk e13.tk hcv))
          have ok := dok_bars hyl
          generalize (PyData.list ((noE y.2).map barD)) = dt at dx dy ok
          walk_at "z"
          refine ⟨.ref p, .ref lc, dt, rfl, dx, dy, ok, fun H14 e14 => ?_⟩
          have W14 := (W.ex e13).ex e14
          walk_at "z"
          refine s_neFacts W14.rq W14.rl gf ?_
          walk_at "z"
          refine s_app (e14 _ _ hp) (szl (by omega)) fun H15 f15 hp15 => ?_
          have e15 := (e13.trans e14).fr2 np f15
          exact ⟨_, _, rfl, hdue.ex e15, W.ex e15, B.ext e15⟩
        · obtain ⟨p2, rfl, hp2⟩ := hdue.2 hno
          have dx : Dp K H13 (.ref p) (.list [.str "NoPassing", .int n]) := .lst (SqL.of hp) (.cons (.str _) (.cons (.int _) .nil))
          have dy : Dp K H13 (.ref p2) (.list [.str "NoPassing", .int n]) := .lst (SqL.of (e13 _ _ hp2)) (.cons (.str _) (.cons (.int _) .nil))
          walk_at "z"
          refine ⟨.ref p, .ref p2, _, rfl, dx, dy, ⟨by show 2 ≤ 1000; decide, fun d hd => ?_⟩, fun H14 e14 => ?_⟩
          · simp only [List.mem_cons, List.not_mem_nil, or_false] at hd
            rcases hd with rfl | rfl <;> trivial
          have W14 := (W.ex e13).ex e14
          walk_at "z"
          refine s_neFacts W14.rq W14.rl gf ?_
          walk_at "z"
          refine s_app (e14 _ _ hp) (szl (by decide : 2 ≤ 100000)) fun H15 f15 hp15 => ?_
          have e15 := (e13.trans e14).fr2 np f15
          exact ⟨_, _, rfl, hdue.ex e15, W.ex e15, B.ext e15⟩
      · obtain ⟨v9, v10, rfl, hdue, W, B⟩ := h
        walk_at "z"
        exact ⟨_, _, _, _, _, rfl, W, B⟩
    · obtain ⟨v6, v7, v8, v9, v10, rfl, W, B⟩ := h
      walk_at "z"
      exact k _

end
theorem all_mk {l : PySem.W.OpenLaw} {w : World} {K : PySem.W.Frag} {h : Heap} {mg : Str → Option Value} {fa f0 f1 f2 f3 f4 f5 f6 f7 f8 f9 f10 f11 f12 f13 f14 f15 f16 f17 f18 f19 f20 f21 f22 f23 f24 f25 f26 f27 f28 f29 fL : Addr} (X : K.In h) (G : h.Ns mainGlobals mg) (hfa : mg "law" = some (.ref fa))
    {od0 an0 od1 an1 od2 an2 od3 an3 od4 an4 od5 an5 od6 an6 od7 an7 od8 an8 od9 an9 od10 an10 od11 an11 od12 an12 od13 an13 od14 an14 od15 an15 od16 an16 od17 an17 od18 an18 od19 an19 od20 an20 od21 an21 od22 an22 od23 an23 od24 an24 od25 an25 od26 an26 od27 an27 od28 an28 od29 an29 odL anL : Option Addr} {sl0 sl1 sl2 sl3 sl4 sl5 sl6 sl7 sl8 sl9 sl10 sl11 sl12 sl13 sl14 sl15 sl16 sl17 sl18 sl19 sl20 sl21 sl22 sl23 sl24 sl25 sl26 sl27 sl28 sl29 slL : Array (Option Value)} {oc0 kV0 dc0 pm0 cd0 ct0 oc1 kV1 dc1 pm1 cd1 ct1 oc2 kV2 dc2 pm2 cd2 ct2 oc3 kV3 dc3 pm3 cd3 ct3 oc4 kV4 dc4 pm4 cd4 ct4 oc5 kV5 dc5 pm5 cd5 ct5 oc6 kV6 dc6 pm6 cd6 ct6 oc7 kV7 dc7 pm7 cd7 ct7 oc8 kV8 dc8 pm8 cd8 ct8 oc9 kV9 dc9 pm9 cd9 ct9 oc10 kV10 dc10 pm10 cd10 ct10 oc11 kV11 dc11 pm11 cd11 ct11 oc12 kV12 dc12 pm12 cd12 ct12 oc13 kV13 dc13 pm13 cd13 ct13 oc14 kV14 dc14 pm14 cd14 ct14 oc15 kV15 dc15 pm15 cd15 ct15 oc16 kV16 dc16 pm16 cd16 ct16 oc17 kV17 dc17 pm17 cd17 ct17 oc18 kV18 dc18 pm18 cd18 ct18 oc19 kV19 dc19 pm19 cd19 ct19 oc20 kV20 dc20 pm20 cd20 ct20 oc21 kV21 dc21 pm21 cd21 ct21 oc22 kV22 dc22 pm22 cd22 ct22 oc23 kV23 dc23 pm23 cd23 ct23 oc24 kV24 dc24 pm24 cd24 ct24 oc25 kV25 dc25 pm25 cd25 ct25 oc26 kV26 dc26 pm26 cd26 ct26 oc27 kV27 dc27 pm27 cd27 ct27 oc28 kV28 dc28 pm28 cd28 ct28 oc29 kV29 dc29 pm29 cd29 ct29 ocL kVL dcL pmL cdL ctL : Value} {t_WEEK t_SUNDAY : Tok}
    {C_CarriageDay : Addr}
    {f_c_CarriageDay_init : Addr} {od_c_CarriageDay_init an_c_CarriageDay_init : Option Addr} {sl_c_CarriageDay_init : Array (Option Value)} {oc_c_CarriageDay_init kV_c_CarriageDay_init dc_c_CarriageDay_init pm_c_CarriageDay_init cd_c_CarriageDay_init ct_c_CarriageDay_init : Value}
    {f_c_CarriageDay_hindrance : Addr} {od_c_CarriageDay_hindrance an_c_CarriageDay_hindrance : Option Addr} {sl_c_CarriageDay_hindrance : Array (Option Value)} {oc_c_CarriageDay_hindrance kV_c_CarriageDay_hindrance dc_c_CarriageDay_hindrance pm_c_CarriageDay_hindrance cd_c_CarriageDay_hindrance ct_c_CarriageDay_hindrance : Value}
    {f_c_CarriageDay_told_row : Addr} {od_c_CarriageDay_told_row an_c_CarriageDay_told_row : Option Addr} {sl_c_CarriageDay_told_row : Array (Option Value)} {oc_c_CarriageDay_told_row kV_c_CarriageDay_told_row dc_c_CarriageDay_told_row pm_c_CarriageDay_told_row cd_c_CarriageDay_told_row ct_c_CarriageDay_told_row : Value}
    {f_c_CarriageDay_walk : Addr} {od_c_CarriageDay_walk an_c_CarriageDay_walk : Option Addr} {sl_c_CarriageDay_walk : Array (Option Value)} {oc_c_CarriageDay_walk kV_c_CarriageDay_walk dc_c_CarriageDay_walk pm_c_CarriageDay_walk cd_c_CarriageDay_walk ct_c_CarriageDay_walk : Value}
    (a0 : PySem.W.nsIn K mainGlobals "is_number" = some (some (.ref f0)))
    (l0 : K.lookup f0 = some ⟨oc0, od0, .func (PySem.W.fnOf "is_number" "is_number" (defArgs s_p_is_number) (defBody s_p_is_number) (defScope s_p_is_number) .none kV0 dc0 pm0 an0 cd0 ct0), sl0⟩)
    (c0 : PySem.W.codeIn K cd0 "is_number" = true) (k0 : PySem.W.keepIn K (.ref f0) = true)
    (a1 : PySem.W.nsIn K mainGlobals "is_good" = some (some (.ref f1)))
    (l1 : K.lookup f1 = some ⟨oc1, od1, .func (PySem.W.fnOf "is_good" "is_good" (defArgs s_p_is_good) (defBody s_p_is_good) (defScope s_p_is_good) .none kV1 dc1 pm1 an1 cd1 ct1), sl1⟩)
    (c1 : PySem.W.codeIn K cd1 "is_good" = true) (k1 : PySem.W.keepIn K (.ref f1) = true)
    (a2 : PySem.W.nsIn K mainGlobals "holding" = some (some (.ref f2)))
    (l2 : K.lookup f2 = some ⟨oc2, od2, .func (PySem.W.fnOf "holding" "holding" (defArgs s_p_holding) (defBody s_p_holding) (defScope s_p_holding) .none kV2 dc2 pm2 an2 cd2 ct2), sl2⟩)
    (c2 : PySem.W.codeIn K cd2 "holding" = true) (k2 : PySem.W.keepIn K (.ref f2) = true)
    (a3 : PySem.W.nsIn K mainGlobals "toll_on" = some (some (.ref f3)))
    (l3 : K.lookup f3 = some ⟨oc3, od3, .func (PySem.W.fnOf "toll_on" "toll_on" (defArgs s_p_toll_on) (defBody s_p_toll_on) (defScope s_p_toll_on) .none kV3 dc3 pm3 an3 cd3 ct3), sl3⟩)
    (c3 : PySem.W.codeIn K cd3 "toll_on" = true) (k3 : PySem.W.keepIn K (.ref f3) = true)
    (a4 : PySem.W.nsIn K mainGlobals "board_on" = some (some (.ref f4)))
    (l4 : K.lookup f4 = some ⟨oc4, od4, .func (PySem.W.fnOf "board_on" "board_on" (defArgs s_p_board_on) (defBody s_p_board_on) (defScope s_p_board_on) .none kV4 dc4 pm4 an4 cd4 ct4), sl4⟩)
    (c4 : PySem.W.codeIn K cd4 "board_on" = true) (k4 : PySem.W.keepIn K (.ref f4) = true)
    (a5 : PySem.W.nsIn K mainGlobals "need_passing" = some (some (.ref f5)))
    (l5 : K.lookup f5 = some ⟨oc5, od5, .func (PySem.W.fnOf "need_passing" "need_passing" (defArgs s_p_need_passing) (defBody s_p_need_passing) (defScope s_p_need_passing) .none kV5 dc5 pm5 an5 cd5 ct5), sl5⟩)
    (c5 : PySem.W.codeIn K cd5 "need_passing" = true) (k5 : PySem.W.keepIn K (.ref f5) = true)
    (a6 : PySem.W.nsIn K mainGlobals "fare" = some (some (.ref f6)))
    (l6 : K.lookup f6 = some ⟨oc6, od6, .func (PySem.W.fnOf "fare" "fare" (defArgs s_p_fare) (defBody s_p_fare) (defScope s_p_fare) .none kV6 dc6 pm6 an6 cd6 ct6), sl6⟩)
    (c6 : PySem.W.codeIn K cd6 "fare" = true) (k6 : PySem.W.keepIn K (.ref f6) = true)
    (a7 : PySem.W.nsIn K mainGlobals "passings_on" = some (some (.ref f7)))
    (l7 : K.lookup f7 = some ⟨oc7, od7, .func (PySem.W.fnOf "passings_on" "passings_on" (defArgs s_p_passings_on) (defBody s_p_passings_on) (defScope s_p_passings_on) .none kV7 dc7 pm7 an7 cd7 ct7), sl7⟩)
    (c7 : PySem.W.codeIn K cd7 "passings_on" = true) (k7 : PySem.W.keepIn K (.ref f7) = true)
    (a8 : PySem.W.nsIn K mainGlobals "free_on" = some (some (.ref f8)))
    (l8 : K.lookup f8 = some ⟨oc8, od8, .func (PySem.W.fnOf "free_on" "free_on" (defArgs s_p_free_on) (defBody s_p_free_on) (defScope s_p_free_on) .none kV8 dc8 pm8 an8 cd8 ct8), sl8⟩)
    (c8 : PySem.W.codeIn K cd8 "free_on" = true) (k8 : PySem.W.keepIn K (.ref f8) = true)
    (a9 : PySem.W.nsIn K mainGlobals "lost_minutes" = some (some (.ref f9)))
    (l9 : K.lookup f9 = some ⟨oc9, od9, .func (PySem.W.fnOf "lost_minutes" "lost_minutes" (defArgs s_p_lost_minutes) (defBody s_p_lost_minutes) (defScope s_p_lost_minutes) .none kV9 dc9 pm9 an9 cd9 ct9), sl9⟩)
    (c9 : PySem.W.codeIn K cd9 "lost_minutes" = true) (k9 : PySem.W.keepIn K (.ref f9) = true)
    (a10 : PySem.W.nsIn K mainGlobals "why" = some (some (.ref f10)))
    (l10 : K.lookup f10 = some ⟨oc10, od10, .func (PySem.W.fnOf "why" "why" (defArgs s_p_why) (defBody s_p_why) (defScope s_p_why) .none kV10 dc10 pm10 an10 cd10 ct10), sl10⟩)
    (c10 : PySem.W.codeIn K cd10 "why" = true) (k10 : PySem.W.keepIn K (.ref f10) = true)
    (a11 : PySem.W.nsIn K mainGlobals "_law_bag" = some (some (.ref f11)))
    (l11 : K.lookup f11 = some ⟨oc11, od11, .func (PySem.W.fnOf "_law_bag" "_law_bag" (defArgs s_l_bag) (defBody s_l_bag) (defScope s_l_bag) .none kV11 dc11 pm11 an11 cd11 ct11), sl11⟩)
    (c11 : PySem.W.codeIn K cd11 "_law_bag" = true) (k11 : PySem.W.keepIn K (.ref f11) = true)
    (a12 : PySem.W.nsIn K mainGlobals "_law_pull" = some (some (.ref f12)))
    (l12 : K.lookup f12 = some ⟨oc12, od12, .func (PySem.W.fnOf "_law_pull" "_law_pull" (defArgs s_l_pull) (defBody s_l_pull) (defScope s_l_pull) .none kV12 dc12 pm12 an12 cd12 ct12), sl12⟩)
    (c12 : PySem.W.codeIn K cd12 "_law_pull" = true) (k12 : PySem.W.keepIn K (.ref f12) = true)
    (a13 : PySem.W.nsIn K mainGlobals "_law_like" = some (some (.ref f13)))
    (l13 : K.lookup f13 = some ⟨oc13, od13, .func (PySem.W.fnOf "_law_like" "_law_like" (defArgs s_l_like) (defBody s_l_like) (defScope s_l_like) .none kV13 dc13 pm13 an13 cd13 ct13), sl13⟩)
    (c13 : PySem.W.codeIn K cd13 "_law_like" = true) (k13 : PySem.W.keepIn K (.ref f13) = true)
    (a14 : PySem.W.nsIn K mainGlobals "_law_gate" = some (some (.ref f14)))
    (l14 : K.lookup f14 = some ⟨oc14, od14, .func (PySem.W.fnOf "_law_gate" "_law_gate" (defArgs s_l_gate) (defBody s_l_gate) (defScope s_l_gate) .none kV14 dc14 pm14 an14 cd14 ct14), sl14⟩)
    (c14 : PySem.W.codeIn K cd14 "_law_gate" = true) (k14 : PySem.W.keepIn K (.ref f14) = true)
    (a15 : PySem.W.nsIn K mainGlobals "_law_day" = some (some (.ref f15)))
    (l15 : K.lookup f15 = some ⟨oc15, od15, .func (PySem.W.fnOf "_law_day" "_law_day" (defArgs s_l_day) (defBody s_l_day) (defScope s_l_day) .none kV15 dc15 pm15 an15 cd15 ct15), sl15⟩)
    (c15 : PySem.W.codeIn K cd15 "_law_day" = true) (k15 : PySem.W.keepIn K (.ref f15) = true)
    (a16 : PySem.W.nsIn K mainGlobals "_law_board" = some (some (.ref f16)))
    (l16 : K.lookup f16 = some ⟨oc16, od16, .func (PySem.W.fnOf "_law_board" "_law_board" (defArgs s_l_board) (defBody s_l_board) (defScope s_l_board) .none kV16 dc16 pm16 an16 cd16 ct16), sl16⟩)
    (c16 : PySem.W.codeIn K cd16 "_law_board" = true) (k16 : PySem.W.keepIn K (.ref f16) = true)
    (a17 : PySem.W.nsIn K mainGlobals "_law_passing" = some (some (.ref f17)))
    (l17 : K.lookup f17 = some ⟨oc17, od17, .func (PySem.W.fnOf "_law_passing" "_law_passing" (defArgs s_l_passing) (defBody s_l_passing) (defScope s_l_passing) .none kV17 dc17 pm17 an17 cd17 ct17), sl17⟩)
    (c17 : PySem.W.codeIn K cd17 "_law_passing" = true) (k17 : PySem.W.keepIn K (.ref f17) = true)
    (a18 : PySem.W.nsIn K mainGlobals "_law_stretch" = some (some (.ref f18)))
    (l18 : K.lookup f18 = some ⟨oc18, od18, .func (PySem.W.fnOf "_law_stretch" "_law_stretch" (defArgs s_l_stretch) (defBody s_l_stretch) (defScope s_l_stretch) .none kV18 dc18 pm18 an18 cd18 ct18), sl18⟩)
    (c18 : PySem.W.codeIn K cd18 "_law_stretch" = true) (k18 : PySem.W.keepIn K (.ref f18) = true)
    (a19 : PySem.W.nsIn K mainGlobals "_law_fact" = some (some (.ref f19)))
    (l19 : K.lookup f19 = some ⟨oc19, od19, .func (PySem.W.fnOf "_law_fact" "_law_fact" (defArgs s_l_fact) (defBody s_l_fact) (defScope s_l_fact) .none kV19 dc19 pm19 an19 cd19 ct19), sl19⟩)
    (c19 : PySem.W.codeIn K cd19 "_law_fact" = true) (k19 : PySem.W.keepIn K (.ref f19) = true)
    (a20 : PySem.W.nsIn K mainGlobals "_law_facts" = some (some (.ref f20)))
    (l20 : K.lookup f20 = some ⟨oc20, od20, .func (PySem.W.fnOf "_law_facts" "_law_facts" (defArgs s_l_facts) (defBody s_l_facts) (defScope s_l_facts) .none kV20 dc20 pm20 an20 cd20 ct20), sl20⟩)
    (c20 : PySem.W.codeIn K cd20 "_law_facts" = true) (k20 : PySem.W.keepIn K (.ref f20) = true)
    (a21 : PySem.W.nsIn K mainGlobals "_law_hold" = some (some (.ref f21)))
    (l21 : K.lookup f21 = some ⟨oc21, od21, .func (PySem.W.fnOf "_law_hold" "_law_hold" (defArgs s_l_hold) (defBody s_l_hold) (defScope s_l_hold) .none kV21 dc21 pm21 an21 cd21 ct21), sl21⟩)
    (c21 : PySem.W.codeIn K cd21 "_law_hold" = true) (k21 : PySem.W.keepIn K (.ref f21) = true)
    (a22 : PySem.W.nsIn K mainGlobals "_law_clears" = some (some (.ref f22)))
    (l22 : K.lookup f22 = some ⟨oc22, od22, .func (PySem.W.fnOf "_law_clears" "_law_clears" (defArgs s_l_clears) (defBody s_l_clears) (defScope s_l_clears) .none kV22 dc22 pm22 an22 cd22 ct22), sl22⟩)
    (c22 : PySem.W.codeIn K cd22 "_law_clears" = true) (k22 : PySem.W.keepIn K (.ref f22) = true)
    (a23 : PySem.W.nsIn K mainGlobals "_law_asked_toll" = some (some (.ref f23)))
    (l23 : K.lookup f23 = some ⟨oc23, od23, .func (PySem.W.fnOf "_law_asked_toll" "_law_asked_toll" (defArgs s_l_asked_toll) (defBody s_l_asked_toll) (defScope s_l_asked_toll) .none kV23 dc23 pm23 an23 cd23 ct23), sl23⟩)
    (c23 : PySem.W.codeIn K cd23 "_law_asked_toll" = true) (k23 : PySem.W.keepIn K (.ref f23) = true)
    (a24 : PySem.W.nsIn K mainGlobals "_law_free" = some (some (.ref f24)))
    (l24 : K.lookup f24 = some ⟨oc24, od24, .func (PySem.W.fnOf "_law_free" "_law_free" (defArgs s_l_free) (defBody s_l_free) (defScope s_l_free) .none kV24 dc24 pm24 an24 cd24 ct24), sl24⟩)
    (c24 : PySem.W.codeIn K cd24 "_law_free" = true) (k24 : PySem.W.keepIn K (.ref f24) = true)
    (a25 : PySem.W.nsIn K mainGlobals "_law_bar" = some (some (.ref f25)))
    (l25 : K.lookup f25 = some ⟨oc25, od25, .func (PySem.W.fnOf "_law_bar" "_law_bar" (defArgs s_l_bar) (defBody s_l_bar) (defScope s_l_bar) .none kV25 dc25 pm25 an25 cd25 ct25), sl25⟩)
    (c25 : PySem.W.codeIn K cd25 "_law_bar" = true) (k25 : PySem.W.keepIn K (.ref f25) = true)
    (a26 : PySem.W.nsIn K mainGlobals "_law_walk" = some (some (.ref f26)))
    (l26 : K.lookup f26 = some ⟨oc26, od26, .func (PySem.W.fnOf "_law_walk" "_law_walk" (defArgs s_l_walk) (defBody s_l_walk) (defScope s_l_walk) .none kV26 dc26 pm26 an26 cd26 ct26), sl26⟩)
    (c26 : PySem.W.codeIn K cd26 "_law_walk" = true) (k26 : PySem.W.keepIn K (.ref f26) = true)
    (a27 : PySem.W.nsIn K mainGlobals "_law_rows" = some (some (.ref f27)))
    (l27 : K.lookup f27 = some ⟨oc27, od27, .func (PySem.W.fnOf "_law_rows" "_law_rows" (defArgs s_l_rows) (defBody s_l_rows) (defScope s_l_rows) .none kV27 dc27 pm27 an27 cd27 ct27), sl27⟩)
    (c27 : PySem.W.codeIn K cd27 "_law_rows" = true) (k27 : PySem.W.keepIn K (.ref f27) = true)
    (a28 : PySem.W.nsIn K mainGlobals "_law_told" = some (some (.ref f28)))
    (l28 : K.lookup f28 = some ⟨oc28, od28, .func (PySem.W.fnOf "_law_told" "_law_told" (defArgs s_l_told) (defBody s_l_told) (defScope s_l_told) .none kV28 dc28 pm28 an28 cd28 ct28), sl28⟩)
    (c28 : PySem.W.codeIn K cd28 "_law_told" = true) (k28 : PySem.W.keepIn K (.ref f28) = true)
    (a29 : PySem.W.nsIn K mainGlobals "_law_far" = some (some (.ref f29)))
    (l29 : K.lookup f29 = some ⟨oc29, od29, .func (PySem.W.fnOf "_law_far" "_law_far" (defArgs s_l_far) (defBody s_l_far) (defScope s_l_far) .none kV29 dc29 pm29 an29 cd29 ct29), sl29⟩)
    (c29 : PySem.W.codeIn K cd29 "_law_far" = true) (k29 : PySem.W.keepIn K (.ref f29) = true)
    (aL : PySem.W.nsIn K mainGlobals "law" = some (some (.ref fL)))
    (lL : K.lookup fL = some ⟨ocL, odL, .func (PySem.W.fnOf "law" "law" (defArgs s_law) (defBody s_law) (defScope s_law) .none kVL dcL pmL anL cdL ctL), slL⟩)
    (cL : PySem.W.codeIn K cdL "law" = true) (kL : PySem.W.keepIn K (.ref fL) = true)
    (z_len : PySem.W.nsIn K mainGlobals "len" = some none)
    (z_isinstance : PySem.W.nsIn K mainGlobals "isinstance" = some none)
    (z_tuple : PySem.W.nsIn K mainGlobals "tuple" = some none)
    (z_list : PySem.W.nsIn K mainGlobals "list" = some none)
    (z_bool : PySem.W.nsIn K mainGlobals "bool" = some none)
    (z_range : PySem.W.nsIn K mainGlobals "range" = some none)
    (z_int : PySem.W.nsIn K mainGlobals "int" = some none)
    (z_set : PySem.W.nsIn K mainGlobals "set" = some none)
    (z_sorted : PySem.W.nsIn K mainGlobals "sorted" = some none)
    (z_min : PySem.W.nsIn K mainGlobals "min" = some none)
    (z_all : PySem.W.nsIn K mainGlobals "all" = some none)
    (k_WEEK : PySem.W.nsIn K mainGlobals "WEEK" = some (some (.int 7 t_WEEK)))
    (k_SUNDAY : PySem.W.nsIn K mainGlobals "SUNDAY" = some (some (.int 6 t_SUNDAY)))
    {B_BOUNDS : Addr} {es_BOUNDS : Array DictEntry} {en_BOUNDS : Nat} {tk0_BOUNDS_number : Tok}
    {t_BOUNDS_number : Addr} {to_BOUNDS_number : Option Addr} {tn_BOUNDS_number : Nat} {ts_BOUNDS_number : Array (Option Value)}
    (a_BOUNDS : PySem.W.nsIn K mainGlobals "BOUNDS" = some (some (.ref B_BOUNDS)))
    (ld_BOUNDS : K.lookup B_BOUNDS = some ⟨.type "dict", none, .dict es_BOUNDS en_BOUNDS, #[]⟩)
    (kl_BOUNDS : PySem.W.KeysLit w.params es_BOUNDS.toList)
    (ek_BOUNDS_number : PySem.W.nsIn K B_BOUNDS "number" = some (some (.ref t_BOUNDS_number)))
    (lt_BOUNDS_number : K.lookup t_BOUNDS_number = some ⟨.type "tuple", to_BOUNDS_number, .seq #[.int 1 tk0_BOUNDS_number, .none] tn_BOUNDS_number, ts_BOUNDS_number⟩)
    (z_super : PySem.W.nsIn K mainGlobals "super" = some none)
    (htop : (l.prog.main.scope.names.lookup ("super" : Str)).isSome = false)
    (xst : PySem.W.nsIn K cStatics "thirdparty.any" = some none)
    (xsp : PySem.W.specialIn K (.builtin "object.__class__") "__get__" = some (some (.builtin "getset_descriptor.__get__")))
    (xtk : PySem.W.takesIn K (.builtin "object.__class__") = some true)
    {C_Missing : Addr}
    (a_Missing : PySem.W.nsIn K mainGlobals "Missing" = some (some (.ref C_Missing)))
    {C_NoPassing : Addr}
    (a_NoPassing : PySem.W.nsIn K mainGlobals "NoPassing" = some (some (.ref C_NoPassing)))
    {f_c_Missing_init cda_c_Missing_init cc_c_Missing_init : Addr} {od_c_Missing_init od2_c_Missing_init od3_c_Missing_init an_c_Missing_init : Option Addr} {sl_c_Missing_init sl2_c_Missing_init sl3_c_Missing_init : Array (Option Value)} {oc_c_Missing_init oc2_c_Missing_init oc3_c_Missing_init kV_c_Missing_init dc_c_Missing_init pm_c_Missing_init ct_c_Missing_init : Value} {vs_c_Missing_init : Array Value} {fl_c_Missing_init : Str} {tf_c_Missing_init : Tok}
    (at_c_Missing_init : PySem.W.findIn K (.ref C_Missing) "__init__" = some (some (.ref f_c_Missing_init)))
    (lk_c_Missing_init : K.lookup f_c_Missing_init = some ⟨oc_c_Missing_init, od_c_Missing_init, .func (PySem.W.ksFn "__init__" "Missing.__init__" (defArgs s_c_Missing_init) (defBody s_c_Missing_init) (defScope s_c_Missing_init) .none kV_c_Missing_init dc_c_Missing_init pm_c_Missing_init an_c_Missing_init (.ref cda_c_Missing_init) ct_c_Missing_init cc_c_Missing_init), sl_c_Missing_init⟩)
    (cdk_c_Missing_init : PySem.W.codeIn K (.ref cda_c_Missing_init) "Missing.__init__" = true)
    (kf_c_Missing_init : PySem.W.keepIn K (.ref f_c_Missing_init) = true)
    (tyf_c_Missing_init : PySem.W.typeIn K (.ref f_c_Missing_init) = some (.type "function"))
    (fnf_c_Missing_init : PySem.W.fnIn K f_c_Missing_init = true)
    (lc_c_Missing_init : K.lookup cc_c_Missing_init = some ⟨oc2_c_Missing_init, od2_c_Missing_init, .cell (some (.ref C_Missing)), sl2_c_Missing_init⟩)
    (ld_c_Missing_init : K.lookup cda_c_Missing_init = some ⟨oc3_c_Missing_init, od3_c_Missing_init, .fields vs_c_Missing_init, sl3_c_Missing_init⟩)
    (hv_c_Missing_init : vs_c_Missing_init[2]? = some (.str fl_c_Missing_init tf_c_Missing_init))
    (hf_c_Missing_init : ((l.prog.main.file : Str) == fl_c_Missing_init) = true)
    {nm_NoPassing q_NoPassing : Str} {N_NoPassing : Addr} {bs_NoPassing bm_NoPassing sub_NoPassing : List Value} {sn_NoPassing : List Str} {ab_NoPassing : Bool} {col_NoPassing : Option Bool} {dd_NoPassing : Option Addr} {k0_NoPassing k1_NoPassing k2_NoPassing k3_NoPassing k5_NoPassing : Option Value} {tn_NoPassing : Tok}
    (cl_NoPassing : K.lookup C_NoPassing = some (excClassObj nm_NoPassing q_NoPassing C_NoPassing N_NoPassing bs_NoPassing bm_NoPassing true sn_NoPassing sub_NoPassing ab_NoPassing col_NoPassing dd_NoPassing k0_NoPassing k1_NoPassing k2_NoPassing k3_NoPassing k5_NoPassing "LookupError.__new__"))
    (rf_NoPassing : PySem.ZEX.refsX true bm_NoPassing = true)
    (kn_NoPassing : k2_NoPassing = some (.str "NoPassing" tn_NoPassing))
    (sa_NoPassing : PySem.W.findIn K (.ref C_NoPassing) "__setattr__" = some (some (.builtin "object.__setattr__")))
    (ex_NoPassing : PySem.W.subIn K (.ref C_NoPassing) (.type "BaseException") = some true)
    (ty_NoPassing : PySem.W.typeIn K (.ref C_NoPassing) = some (.type "type"))
    (kp_NoPassing : PySem.W.keepIn K (.ref C_NoPassing) = true)
    (ga_NoPassing : PySem.W.findIn K (.ref C_NoPassing) "__getattribute__" = some (some (.builtin "BaseException.__getattribute__")))
    (gg_NoPassing : PySem.W.findIn K (.ref C_NoPassing) "__getattr__" = some none)
    (ic_NoPassing : PySem.W.isClsIn K C_NoPassing = true)
    (ca_NoPassing : PySem.W.findIn K (.ref C_NoPassing) "__class__" = some (some (.builtin "object.__class__")))
    (ob_NoPassing : PySem.W.mroIn K C_NoPassing (.type "object") = some true)
    (cn_NoPassing : PySem.W.findCls K (.ref C_NoPassing) (.type "type") "__name__" = some (.get (.builtin "getset_descriptor.__get__") (.builtin "type.__name__") (.ref C_NoPassing) (.type "type")))
    (icb_NoPassing : PySem.W.isClsIn K C_Missing = true)
    (mr_NoPassing : PySem.W.mroIn K C_NoPassing (.ref C_Missing) = some true)
    (si_NoPassing : PySem.W.ks_superIn K C_NoPassing C_Missing "__init__" = some (some (.builtin "KeyError.__init__")))
    (sb_NoPassing : PySem.W.subIn K (.ref C_NoPassing) (.type "KeyError") = some true)
    (noc_NoPassing : PySem.W.findIn K (.ref C_NoPassing) "called" = some none)
    (hd_NoPassing : PySem.W.hasDictIn K C_NoPassing = true)
    (ss_NoPassing : PySem.W.subIn K (.ref C_NoPassing) (.ref C_NoPassing) = some true)
    (ini_NoPassing : PySem.W.findIn K (.ref C_NoPassing) "__init__" = some (some (.ref f_c_Missing_init)))
    (nof_NoPassing : PySem.W.findIn K (.ref C_NoPassing) "number" = some none)
    (a_CarriageDay : PySem.W.nsIn K mainGlobals "CarriageDay" = some (some (.ref C_CarriageDay)))
    (pg_CarriageDay : PySem.W.plainGet K C_CarriageDay Str.empty = true)
    (hd_CarriageDay : PySem.W.hasDictIn K C_CarriageDay = true)
    (po_CarriageDay : PySem.W.plainOver K C_CarriageDay = true)
    (sa_CarriageDay : PySem.W.findIn K (.ref C_CarriageDay) "__setattr__" = some (some (.builtin "object.__setattr__")))
    (kp_CarriageDay : PySem.W.keepIn K (.ref C_CarriageDay) = true)
    (mki_CarriageDay : PySem.W.makesIn K C_CarriageDay = true)
    (ob_CarriageDay : PySem.W.mroIn K C_CarriageDay (.type "object") = some true)
    (ic_CarriageDay : PySem.W.isClsIn K C_CarriageDay = true)
    (tm_CarriageDay : PySem.W.typeIn K (.ref C_CarriageDay) = some (.type "type"))
    (nfo_CarriageDay : PySem.W.notFirst K C_CarriageDay (.ref C_CarriageDay) = true)
    (clo_CarriageDay : PySem.W.findIn K (.ref C_CarriageDay) "__class__" = some (some (.builtin "object.__class__")))
    (gto_CarriageDay : PySem.W.specialIn K (.builtin "object.__class__") "__get__" = some (some (.builtin "getset_descriptor.__get__")))
    (tko_CarriageDay : PySem.W.takesIn K (.builtin "object.__class__") = some true)
    (na_CarriageDay_all_facts : PySem.W.findIn K (.ref C_CarriageDay) "all_facts" = some none)
    (na_CarriageDay_carriage : PySem.W.findIn K (.ref C_CarriageDay) "carriage" = some none)
    (na_CarriageDay_day : PySem.W.findIn K (.ref C_CarriageDay) "day" = some none)
    (na_CarriageDay_order : PySem.W.findIn K (.ref C_CarriageDay) "order" = some none)
    (na_CarriageDay_free : PySem.W.findIn K (.ref C_CarriageDay) "free" = some none)
    (na_CarriageDay_lost : PySem.W.findIn K (.ref C_CarriageDay) "lost" = some none)
    (na_CarriageDay_boards : PySem.W.findIn K (.ref C_CarriageDay) "boards" = some none)
    (at_c_CarriageDay_init : PySem.W.findIn K (.ref C_CarriageDay) "__init__" = some (some (.ref f_c_CarriageDay_init)))
    (fn_c_CarriageDay_init : PySem.W.isFn K (.ref f_c_CarriageDay_init) = true)
    (lk_c_CarriageDay_init : K.lookup f_c_CarriageDay_init = some ⟨oc_c_CarriageDay_init, od_c_CarriageDay_init, .func (PySem.W.fnOf "__init__" "CarriageDay.__init__" (defArgs s_c_CarriageDay_init) (defBody s_c_CarriageDay_init) (defScope s_c_CarriageDay_init) .none kV_c_CarriageDay_init dc_c_CarriageDay_init pm_c_CarriageDay_init an_c_CarriageDay_init cd_c_CarriageDay_init ct_c_CarriageDay_init), sl_c_CarriageDay_init⟩)
    (cd_ok_c_CarriageDay_init : PySem.W.codeIn K cd_c_CarriageDay_init "CarriageDay.__init__" = true)
    (kf_c_CarriageDay_init : PySem.W.keepIn K (.ref f_c_CarriageDay_init) = true)
    (at_c_CarriageDay_hindrance : PySem.W.findIn K (.ref C_CarriageDay) "hindrance" = some (some (.ref f_c_CarriageDay_hindrance)))
    (fn_c_CarriageDay_hindrance : PySem.W.isFn K (.ref f_c_CarriageDay_hindrance) = true)
    (lk_c_CarriageDay_hindrance : K.lookup f_c_CarriageDay_hindrance = some ⟨oc_c_CarriageDay_hindrance, od_c_CarriageDay_hindrance, .func (PySem.W.fnOf "hindrance" "CarriageDay.hindrance" (defArgs s_c_CarriageDay_hindrance) (defBody s_c_CarriageDay_hindrance) (defScope s_c_CarriageDay_hindrance) .none kV_c_CarriageDay_hindrance dc_c_CarriageDay_hindrance pm_c_CarriageDay_hindrance an_c_CarriageDay_hindrance cd_c_CarriageDay_hindrance ct_c_CarriageDay_hindrance), sl_c_CarriageDay_hindrance⟩)
    (cd_ok_c_CarriageDay_hindrance : PySem.W.codeIn K cd_c_CarriageDay_hindrance "CarriageDay.hindrance" = true)
    (kf_c_CarriageDay_hindrance : PySem.W.keepIn K (.ref f_c_CarriageDay_hindrance) = true)
    (at_c_CarriageDay_told_row : PySem.W.findIn K (.ref C_CarriageDay) "told_row" = some (some (.ref f_c_CarriageDay_told_row)))
    (fn_c_CarriageDay_told_row : PySem.W.isFn K (.ref f_c_CarriageDay_told_row) = true)
    (lk_c_CarriageDay_told_row : K.lookup f_c_CarriageDay_told_row = some ⟨oc_c_CarriageDay_told_row, od_c_CarriageDay_told_row, .func (PySem.W.fnOf "told_row" "CarriageDay.told_row" (defArgs s_c_CarriageDay_told_row) (defBody s_c_CarriageDay_told_row) (defScope s_c_CarriageDay_told_row) .none kV_c_CarriageDay_told_row dc_c_CarriageDay_told_row pm_c_CarriageDay_told_row an_c_CarriageDay_told_row cd_c_CarriageDay_told_row ct_c_CarriageDay_told_row), sl_c_CarriageDay_told_row⟩)
    (cd_ok_c_CarriageDay_told_row : PySem.W.codeIn K cd_c_CarriageDay_told_row "CarriageDay.told_row" = true)
    (kf_c_CarriageDay_told_row : PySem.W.keepIn K (.ref f_c_CarriageDay_told_row) = true)
    (at_c_CarriageDay_walk : PySem.W.findIn K (.ref C_CarriageDay) "walk" = some (some (.ref f_c_CarriageDay_walk)))
    (fn_c_CarriageDay_walk : PySem.W.isFn K (.ref f_c_CarriageDay_walk) = true)
    (lk_c_CarriageDay_walk : K.lookup f_c_CarriageDay_walk = some ⟨oc_c_CarriageDay_walk, od_c_CarriageDay_walk, .func (PySem.W.fnOf "walk" "CarriageDay.walk" (defArgs s_c_CarriageDay_walk) (defBody s_c_CarriageDay_walk) (defScope s_c_CarriageDay_walk) .none kV_c_CarriageDay_walk dc_c_CarriageDay_walk pm_c_CarriageDay_walk an_c_CarriageDay_walk cd_c_CarriageDay_walk ct_c_CarriageDay_walk), sl_c_CarriageDay_walk⟩)
    (cd_ok_c_CarriageDay_walk : PySem.W.codeIn K cd_c_CarriageDay_walk "CarriageDay.walk" = true)
    (kf_c_CarriageDay_walk : PySem.W.keepIn K (.ref f_c_CarriageDay_walk) = true)
    : ∃ fd : FuncData, (∀ (s : Shared) (v : Value), BindsTo s fd ⟨[v], []⟩ [("_law_script", v)]) ∧ ∀ base : Heap, K.In base → base.Ns mainGlobals mg → FnOk l.prog w K mg base CX0 10 fa fd ["_law_script"] (spLaw K) := by
  have e := hfa.symm.trans (PySem.W.mg_of X G aL)
  cases e
  have F0 := fun_mk (st := s_p_is_number) l0 c0 k0
  have b0 := F0.binds (ps := ["thing"]) fun _ _ _ _ _ _ us hl => match us, hl with | [_], _ => rfl
  have F1 := fun_mk (st := s_p_is_good) l1 c1 k1
  have b1 := F1.binds (ps := ["kind", "number"]) fun _ _ _ _ _ _ us hl => match us, hl with | [_, _], _ => rfl
  have F2 := fun_mk (st := s_p_holding) l2 c2 k2
  have b2 := F2.binds (ps := ["facts", "word", "gate", "day", "unsaid"]) fun _ _ _ _ _ _ us hl => match us, hl with | [_, _, _, _, _], _ => rfl
  have F3 := fun_mk (st := s_p_toll_on) l3 c3 k3
  have b3 := F3.binds (ps := ["facts", "gate", "day"]) fun _ _ _ _ _ _ us hl => match us, hl with | [_, _, _], _ => rfl
  have F4 := fun_mk (st := s_p_board_on) l4 c4 k4
  have b4 := F4.binds (ps := ["facts", "gate", "day"]) fun _ _ _ _ _ _ us hl => match us, hl with | [_, _, _], _ => rfl
  have F5 := fun_mk (st := s_p_need_passing) l5 c5 k5
  have b5 := F5.binds (ps := ["facts", "number"]) fun _ _ _ _ _ _ us hl => match us, hl with | [_, _], _ => rfl
  have F6 := fun_mk (st := s_p_fare) l6 c6 k6
  have b6 := F6.binds (ps := ["facts", "gate", "horses", "day"]) fun _ _ _ _ _ _ us hl => match us, hl with | [_, _, _, _], _ => rfl
  have F7 := fun_mk (st := s_p_passings_on) l7 c7 k7
  have b7 := F7.binds (ps := ["facts", "carriage", "day"]) fun _ _ _ _ _ _ us hl => match us, hl with | [_, _, _], _ => rfl
  have F8 := fun_mk (st := s_p_free_on) l8 c8 k8
  have b8 := F8.binds (ps := ["facts", "day"]) fun _ _ _ _ _ _ us hl => match us, hl with | [_, _], _ => rfl
  have F9 := fun_mk (st := s_p_lost_minutes) l9 c9 k9
  have b9 := F9.binds (ps := ["facts"]) fun _ _ _ _ _ _ us hl => match us, hl with | [_], _ => rfl
  have F10 := fun_mk (st := s_p_why) l10 c10 k10
  have b10 := F10.binds (ps := ["facts", "number"]) fun _ _ _ _ _ _ us hl => match us, hl with | [_, _], _ => rfl
  have F11 := fun_mk (st := s_l_bag) l11 c11 k11
  have b11 := F11.binds (ps := ["_law_script"]) fun _ _ _ _ _ _ us hl => match us, hl with | [_], _ => rfl
  have F12 := fun_mk (st := s_l_pull) l12 c12 k12
  have b12 := F12.binds (ps := ["_law_bag_here", "_law_amount"]) fun _ _ _ _ _ _ us hl => match us, hl with | [_, _], _ => rfl
  have F13 := fun_mk (st := s_l_like) l13 c13 k13
  have b13 := F13.binds (ps := ["_law_found", "_law_due"]) fun _ _ _ _ _ _ us hl => match us, hl with | [_, _], _ => rfl
  have F14 := fun_mk (st := s_l_gate) l14 c14 k14
  have b14 := F14.binds (ps := ["_law_bag_here"]) fun _ _ _ _ _ _ us hl => match us, hl with | [_], _ => rfl
  have F15 := fun_mk (st := s_l_day) l15 c15 k15
  have b15 := F15.binds (ps := ["_law_bag_here"]) fun _ _ _ _ _ _ us hl => match us, hl with | [_], _ => rfl
  have F16 := fun_mk (st := s_l_board) l16 c16 k16
  have b16 := F16.binds (ps := ["_law_bag_here"]) fun _ _ _ _ _ _ us hl => match us, hl with | [_], _ => rfl
  have F17 := fun_mk (st := s_l_passing) l17 c17 k17
  have b17 := F17.binds (ps := ["_law_bag_here"]) fun _ _ _ _ _ _ us hl => match us, hl with | [_], _ => rfl
  have F18 := fun_mk (st := s_l_stretch) l18 c18 k18
  have b18 := F18.binds (ps := ["_law_bag_here"]) fun _ _ _ _ _ _ us hl => match us, hl with | [_], _ => rfl
  have F19 := fun_mk (st := s_l_fact) l19 c19 k19
  have b19 := F19.binds (ps := ["_law_bag_here", "_law_amount"]) fun _ _ _ _ _ _ us hl => match us, hl with | [_, _], _ => rfl
  have F20 := fun_mk (st := s_l_facts) l20 c20 k20
  have b20 := F20.binds (ps := ["_law_bag_here", "_law_most"]) fun _ _ _ _ _ _ us hl => match us, hl with | [_, _], _ => rfl
  have F21 := fun_mk (st := s_l_hold) l21 c21 k21
  have b21 := F21.binds (ps := ["_law_facts_here", "_law_word", "_law_gate_here", "_law_day_here", "_law_other"]) fun _ _ _ _ _ _ us hl => match us, hl with | [_, _, _, _, _], _ => rfl
  have F22 := fun_mk (st := s_l_clears) l22 c22 k22
  have b22 := F22.binds (ps := ["_law_facts_here", "_law_gate_here", "_law_day_here"]) fun _ _ _ _ _ _ us hl => match us, hl with | [_, _, _], _ => rfl
  have F23 := fun_mk (st := s_l_asked_toll) l23 c23 k23
  have b23 := F23.binds (ps := ["_law_facts_here", "_law_gate_here", "_law_day_here", "_law_horses"]) fun _ _ _ _ _ _ us hl => match us, hl with | [_, _, _, _], _ => rfl
  have F24 := fun_mk (st := s_l_free) l24 c24 k24
  have b24 := F24.binds (ps := ["_law_facts_here", "_law_carriage", "_law_gate_here", "_law_day_here"]) fun _ _ _ _ _ _ us hl => match us, hl with | [_, _, _, _], _ => rfl
  have F25 := fun_mk (st := s_l_bar) l25 c25 k25
  have b25 := F25.binds (ps := ["_law_facts_here", "_law_ticket", "_law_day_here", "_law_minute", "_law_gate_here", "_law_horses"]) fun _ _ _ _ _ _ us hl => match us, hl with | [_, _, _, _, _, _], _ => rfl
  have F26 := fun_mk (st := s_l_walk) l26 c26 k26
  have b26 := F26.binds (ps := ["_law_facts_here", "_law_carriage", "_law_day_here"]) fun _ _ _ _ _ _ us hl => match us, hl with | [_, _, _], _ => rfl
  have F27 := fun_mk (st := s_l_rows) l27 c27 k27
  have b27 := F27.binds (ps := ["_law_facts_here"]) fun _ _ _ _ _ _ us hl => match us, hl with | [_], _ => rfl
  have F28 := fun_mk (st := s_l_told) l28 c28 k28
  have b28 := F28.binds (ps := ["_law_facts_here", "_law_number"]) fun _ _ _ _ _ _ us hl => match us, hl with | [_, _], _ => rfl
  have F29 := fun_mk (st := s_l_far) l29 c29 k29
  have b29 := F29.binds (ps := ["_law_bag_here"]) fun _ _ _ _ _ _ us hl => match us, hl with | [_], _ => rfl
  have F_c_CarriageDay_init := fun_mk (st := s_c_CarriageDay_init) lk_c_CarriageDay_init cd_ok_c_CarriageDay_init kf_c_CarriageDay_init
  have b_c_CarriageDay_init := F_c_CarriageDay_init.binds (ps := ["self", "facts", "carriage", "day"]) fun _ _ _ _ _ _ us hl => match us, hl with | [_, _, _, _], _ => rfl
  have F_c_CarriageDay_hindrance := fun_mk (st := s_c_CarriageDay_hindrance) lk_c_CarriageDay_hindrance cd_ok_c_CarriageDay_hindrance kf_c_CarriageDay_hindrance
  have b_c_CarriageDay_hindrance := F_c_CarriageDay_hindrance.binds (ps := ["self", "ticket", "passing"]) fun _ _ _ _ _ _ us hl => match us, hl with | [_, _, _], _ => rfl
  have F_c_CarriageDay_told_row := fun_mk (st := s_c_CarriageDay_told_row) lk_c_CarriageDay_told_row cd_ok_c_CarriageDay_told_row kf_c_CarriageDay_told_row
  have b_c_CarriageDay_told_row := F_c_CarriageDay_told_row.binds (ps := ["self", "passing", "checks"]) fun _ _ _ _ _ _ us hl => match us, hl with | [_, _, _], _ => rfl
  have F_c_CarriageDay_walk := fun_mk (st := s_c_CarriageDay_walk) lk_c_CarriageDay_walk cd_ok_c_CarriageDay_walk kf_c_CarriageDay_walk
  have b_c_CarriageDay_walk := F_c_CarriageDay_walk.binds (ps := ["self"]) fun _ _ _ _ _ _ us hl => match us, hl with | [_], _ => rfl
  have T : Tx l.prog K mg w := {
    f_p_is_number := _, d_p_is_number := _, F_p_is_number := F0, g_p_is_number := PySem.W.mg_of X G a0, b_p_is_number := b0,
    f_p_is_good := _, d_p_is_good := _, F_p_is_good := F1, g_p_is_good := PySem.W.mg_of X G a1, b_p_is_good := b1,
    f_p_holding := _, d_p_holding := _, F_p_holding := F2, g_p_holding := PySem.W.mg_of X G a2, b_p_holding := b2,
    f_p_toll_on := _, d_p_toll_on := _, F_p_toll_on := F3, g_p_toll_on := PySem.W.mg_of X G a3, b_p_toll_on := b3,
    f_p_board_on := _, d_p_board_on := _, F_p_board_on := F4, g_p_board_on := PySem.W.mg_of X G a4, b_p_board_on := b4,
    f_p_need_passing := _, d_p_need_passing := _, F_p_need_passing := F5, g_p_need_passing := PySem.W.mg_of X G a5, b_p_need_passing := b5,
    f_p_fare := _, d_p_fare := _, F_p_fare := F6, g_p_fare := PySem.W.mg_of X G a6, b_p_fare := b6,
    f_p_passings_on := _, d_p_passings_on := _, F_p_passings_on := F7, g_p_passings_on := PySem.W.mg_of X G a7, b_p_passings_on := b7,
    f_p_free_on := _, d_p_free_on := _, F_p_free_on := F8, g_p_free_on := PySem.W.mg_of X G a8, b_p_free_on := b8,
    f_p_lost_minutes := _, d_p_lost_minutes := _, F_p_lost_minutes := F9, g_p_lost_minutes := PySem.W.mg_of X G a9, b_p_lost_minutes := b9,
    f_p_why := _, d_p_why := _, F_p_why := F10, g_p_why := PySem.W.mg_of X G a10, b_p_why := b10,
    f_l_bag := _, d_l_bag := _, F_l_bag := F11, g_l_bag := PySem.W.mg_of X G a11, b_l_bag := b11,
    f_l_pull := _, d_l_pull := _, F_l_pull := F12, g_l_pull := PySem.W.mg_of X G a12, b_l_pull := b12,
    f_l_like := _, d_l_like := _, F_l_like := F13, g_l_like := PySem.W.mg_of X G a13, b_l_like := b13,
    f_l_gate := _, d_l_gate := _, F_l_gate := F14, g_l_gate := PySem.W.mg_of X G a14, b_l_gate := b14,
    f_l_day := _, d_l_day := _, F_l_day := F15, g_l_day := PySem.W.mg_of X G a15, b_l_day := b15,
    f_l_board := _, d_l_board := _, F_l_board := F16, g_l_board := PySem.W.mg_of X G a16, b_l_board := b16,
    f_l_passing := _, d_l_passing := _, F_l_passing := F17, g_l_passing := PySem.W.mg_of X G a17, b_l_passing := b17,
    f_l_stretch := _, d_l_stretch := _, F_l_stretch := F18, g_l_stretch := PySem.W.mg_of X G a18, b_l_stretch := b18,
    f_l_fact := _, d_l_fact := _, F_l_fact := F19, g_l_fact := PySem.W.mg_of X G a19, b_l_fact := b19,
    f_l_facts := _, d_l_facts := _, F_l_facts := F20, g_l_facts := PySem.W.mg_of X G a20, b_l_facts := b20,
    f_l_hold := _, d_l_hold := _, F_l_hold := F21, g_l_hold := PySem.W.mg_of X G a21, b_l_hold := b21,
    f_l_clears := _, d_l_clears := _, F_l_clears := F22, g_l_clears := PySem.W.mg_of X G a22, b_l_clears := b22,
    f_l_asked_toll := _, d_l_asked_toll := _, F_l_asked_toll := F23, g_l_asked_toll := PySem.W.mg_of X G a23, b_l_asked_toll := b23,
    f_l_free := _, d_l_free := _, F_l_free := F24, g_l_free := PySem.W.mg_of X G a24, b_l_free := b24,
    f_l_bar := _, d_l_bar := _, F_l_bar := F25, g_l_bar := PySem.W.mg_of X G a25, b_l_bar := b25,
    f_l_walk := _, d_l_walk := _, F_l_walk := F26, g_l_walk := PySem.W.mg_of X G a26, b_l_walk := b26,
    f_l_rows := _, d_l_rows := _, F_l_rows := F27, g_l_rows := PySem.W.mg_of X G a27, b_l_rows := b27,
    f_l_told := _, d_l_told := _, F_l_told := F28, g_l_told := PySem.W.mg_of X G a28, b_l_told := b28,
    f_l_far := _, d_l_far := _, F_l_far := F29, g_l_far := PySem.W.mg_of X G a29, b_l_far := b29,
    z_len := PySem.W.mg_none_of X G z_len,
    z_isinstance := PySem.W.mg_none_of X G z_isinstance,
    z_tuple := PySem.W.mg_none_of X G z_tuple,
    z_list := PySem.W.mg_none_of X G z_list,
    z_bool := PySem.W.mg_none_of X G z_bool,
    z_range := PySem.W.mg_none_of X G z_range,
    z_int := PySem.W.mg_none_of X G z_int,
    z_set := PySem.W.mg_none_of X G z_set,
    z_sorted := PySem.W.mg_none_of X G z_sorted,
    z_min := PySem.W.mg_none_of X G z_min,
    z_all := PySem.W.mg_none_of X G z_all,
    t_WEEK := _, k_WEEK := PySem.W.mg_of X G k_WEEK,
    t_SUNDAY := _, k_SUNDAY := PySem.W.mg_of X G k_SUNDAY,
    B_BOUNDS := _, g_BOUNDS := PySem.W.mg_of X G a_BOUNDS,
    t_BOUNDS_number := _, kd_BOUNDS_number := ⟨_, _, _, ld_BOUNDS, kl_BOUNDS, ek_BOUNDS_number, rfl⟩, kt_BOUNDS_number := .inr ⟨_, _, _, lt_BOUNDS_number, rfl, rfl, (show 2 ≤ sizeLine from sz (by decide)), (.cons ⟨_, rfl⟩ (.cons rfl .nil))⟩,
    C_Missing := _, g_Missing := PySem.W.mg_of X G a_Missing,
    C_NoPassing := _, g_NoPassing := PySem.W.mg_of X G a_NoPassing,
    f_c_Missing_init := _, d_c_Missing_init := _, cda_c_Missing_init := _, cc_c_Missing_init := _, FS_c_Missing_init := (⟨⟨_, _, _, _, _, _, _, _, rfl, lk_c_Missing_init, cdk_c_Missing_init⟩, ⟨_, _, _, lc_c_Missing_init⟩, ⟨_, _, _, _, _, _, ld_c_Missing_init, hv_c_Missing_init, hf_c_Missing_init⟩, kf_c_Missing_init, tyf_c_Missing_init, fnf_c_Missing_init, htop, PySem.W.mg_none_of X G z_super⟩ : FunS l.prog K mg "__init__" "Missing.__init__" s_c_Missing_init f_c_Missing_init _ cda_c_Missing_init cc_c_Missing_init C_Missing), b_c_Missing_init := FunS.binds (ps := ["self", "number"]) (⟨⟨_, _, _, _, _, _, _, _, rfl, lk_c_Missing_init, cdk_c_Missing_init⟩, ⟨_, _, _, lc_c_Missing_init⟩, ⟨_, _, _, _, _, _, ld_c_Missing_init, hv_c_Missing_init, hf_c_Missing_init⟩, kf_c_Missing_init, tyf_c_Missing_init, fnf_c_Missing_init, htop, PySem.W.mg_none_of X G z_super⟩ : FunS l.prog K mg "__init__" "Missing.__init__" s_c_Missing_init f_c_Missing_init _ cda_c_Missing_init cc_c_Missing_init C_Missing) (fun _ _ _ _ _ us hl => match us, hl with | [_, _], _ => rfl),
    pk_NoPassing := ⟨⟨⟨_, _, _, _, _, _, _, _, _, _, _, _, _, _, _, cl_NoPassing, rf_NoPassing⟩, sa_NoPassing, ex_NoPassing, ty_NoPassing, kp_NoPassing⟩, ⟨ga_NoPassing, gg_NoPassing, ex_NoPassing, ic_NoPassing, ca_NoPassing, xsp, xtk, ob_NoPassing, xst, ty_NoPassing, cn_NoPassing, ⟨_, nameIn_of cl_NoPassing kn_NoPassing⟩⟩, ⟨xst, ic_NoPassing, icb_NoPassing, mr_NoPassing⟩, si_NoPassing, sb_NoPassing, noc_NoPassing⟩,
    in_NoPassing := ini_NoPassing,
    no_NoPassing := nof_NoPassing,
    e_NoPassing := exm_self ex_NoPassing ic_NoPassing ty_NoPassing ss_NoPassing, xf_NoPassing := ⟨ga_NoPassing, gg_NoPassing, ex_NoPassing, hd_NoPassing⟩,
    C_CarriageDay := _, g_CarriageDay := PySem.W.mg_of X G a_CarriageDay, cls_CarriageDay := ⟨pg_CarriageDay, hd_CarriageDay, po_CarriageDay, sa_CarriageDay⟩,
    f_c_CarriageDay_init := _, d_c_CarriageDay_init := _, F_c_CarriageDay_init := F_c_CarriageDay_init, b_c_CarriageDay_init := b_c_CarriageDay_init,
    at_c_CarriageDay_init := at_c_CarriageDay_init, fn_c_CarriageDay_init := fn_c_CarriageDay_init,
    mk_CarriageDay := ⟨mki_CarriageDay, at_c_CarriageDay_init, fn_c_CarriageDay_init, kp_CarriageDay⟩,
    f_c_CarriageDay_hindrance := _, d_c_CarriageDay_hindrance := _, F_c_CarriageDay_hindrance := F_c_CarriageDay_hindrance, b_c_CarriageDay_hindrance := b_c_CarriageDay_hindrance,
    at_c_CarriageDay_hindrance := at_c_CarriageDay_hindrance, fn_c_CarriageDay_hindrance := fn_c_CarriageDay_hindrance,
    f_c_CarriageDay_told_row := _, d_c_CarriageDay_told_row := _, F_c_CarriageDay_told_row := F_c_CarriageDay_told_row, b_c_CarriageDay_told_row := b_c_CarriageDay_told_row,
    at_c_CarriageDay_told_row := at_c_CarriageDay_told_row, fn_c_CarriageDay_told_row := fn_c_CarriageDay_told_row,
    f_c_CarriageDay_walk := _, d_c_CarriageDay_walk := _, F_c_CarriageDay_walk := F_c_CarriageDay_walk, b_c_CarriageDay_walk := b_c_CarriageDay_walk,
    at_c_CarriageDay_walk := at_c_CarriageDay_walk, fn_c_CarriageDay_walk := fn_c_CarriageDay_walk,
    na_CarriageDay_all_facts := na_CarriageDay_all_facts,
    na_CarriageDay_carriage := na_CarriageDay_carriage,
    na_CarriageDay_day := na_CarriageDay_day,
    na_CarriageDay_order := na_CarriageDay_order,
    na_CarriageDay_free := na_CarriageDay_free,
    na_CarriageDay_lost := na_CarriageDay_lost,
    na_CarriageDay_boards := na_CarriageDay_boards,
    ty_CarriageDay := fun e => .base (.ins e ⟨pg_CarriageDay, hd_CarriageDay, po_CarriageDay, sa_CarriageDay⟩ clo_CarriageDay gto_CarriageDay tko_CarriageDay ob_CarriageDay), ko_CarriageDay := Z.kit_self, nf_CarriageDay := nfo_CarriageDay }
  exact ⟨_, fun s v => .of_eq rfl, fun base _ _ => ok_law T (fun_mk (st := s_law) lL cL kL)⟩
theorem walk {l : PySem.W.OpenLaw} {q : Program} {loose : List Str} {XP : (Str → Option Value) → Heap → Prop} {YP : World → Heap → Prop} {d : DefRec} {K : Params → PySem.W.Frag} (hn : l.most = some 63) (hdf : d.params.defaults = [])
    (hY : ∀ (w : World) (h : Heap), YP w h → (K w.params).In h)
    (F : ∀ (w : World) (mg : Str → Option Value) (fa : Addr) (h : Heap), (K w.params).In h → h.Ns mainGlobals mg → mg d.name = some (.ref fa) →
      ∃ fd : FuncData, (∀ (s : Shared) (u : Value), BindsTo s fd ⟨[u], []⟩ [("_law_script", u)]) ∧ ∀ base : Heap, (K w.params).In base → base.Ns mainGlobals mg → FnOk l.prog w (K w.params) mg base CX0 10 fa fd ["_law_script"] (spLaw (K w.params))) :
    PySem.W.WalkO q loose XP YP l.row.toRowW d [] (fun f vs => PySem.call f vs) :=
  L2.walk_of (n := 63) (k := 10) (x := "_law_script") (CX := fun _ => CX0) (sp := fun w => spLaw (K w.params)) hn (by decide) hdf ⟨rfl, by decide, by decide⟩ hY F (fun _ _ a ns hl _ hS => ⟨a, ns, rfl, hS, hl, fun _ => rfl⟩) fun _ _ _ _ _ z => z
end Q
open PySem PySem.W PyProof.Rows in
set_option maxRecDepth 100000 in
set_option maxHeartbeats 0 in
theorem PySem.Challenge.cw_pikeroll_k09_why_tickets_clear_not_holds : PySem.Challenge.rw_pikeroll_k09_why_tickets_clear_not.Holds := by
  w_on; o_law; k_head; (case hw => w_witness2)
  k_fill
  refine Q.walk (l := PySem.Challenge.rw_pikeroll_k09_why_tickets_clear_not) rfl rfl (fun w h Y => PySem.W.kIn_of Y) ?F
  case F =>
    intro w mg fa h KX G hmg
    refine' Q.all_mk KX G hmg ?a0 ?l0 ?c0 ?k0 ?a1 ?l1 ?c1 ?k1 ?a2 ?l2 ?c2 ?k2 ?a3 ?l3 ?c3 ?k3 ?a4 ?l4 ?c4 ?k4 ?a5 ?l5 ?c5 ?k5 ?a6 ?l6 ?c6 ?k6 ?a7 ?l7 ?c7 ?k7 ?a8 ?l8 ?c8 ?k8 ?a9 ?l9 ?c9 ?k9 ?a10 ?l10 ?c10 ?k10 ?a11 ?l11 ?c11 ?k11 ?a12 ?l12 ?c12 ?k12 ?a13 ?l13 ?c13 ?k13 ?a14 ?l14 ?c14 ?k14 ?a15 ?l15 ?c15 ?k15 ?a16 ?l16 ?c16 ?k16 ?a17 ?l17 ?c17 ?k17 ?a18 ?l18 ?c18 ?k18 ?a19 ?l19 ?c19 ?k19 ?a20 ?l20 ?c20 ?k20 ?a21 ?l21 ?c21 ?k21 ?a22 ?l22 ?c22 ?k22 ?a23 ?l23 ?c23 ?k23 ?a24 ?l24 ?c24 ?k24 ?a25 ?l25 ?c25 ?k25 ?a26 ?l26 ?c26 ?k26 ?a27 ?l27 ?c27 ?k27 ?a28 ?l28 ?c28 ?k28 ?a29 ?l29 ?c29 ?k29 ?aL ?lL ?cL ?kL ?z_len ?z_isinstance ?z_tuple ?z_list ?z_bool ?z_range ?z_int ?z_set ?z_sorted ?z_min ?z_all ?k_WEEK ?k_SUNDAY ?a_BOUNDS ?ld_BOUNDS ?kl_BOUNDS ?ek_BOUNDS_number ?lt_BOUNDS_number ?z_super ?htop ?xst ?xsp ?xtk ?a_Missing ?a_NoPassing ?at_c_Missing_init ?lk_c_Missing_init ?cdk_c_Missing_init ?kf_c_Missing_init ?tyf_c_Missing_init ?fnf_c_Missing_init ?lc_c_Missing_init ?ld_c_Missing_init ?hv_c_Missing_init ?hf_c_Missing_init ?cl_NoPassing ?rf_NoPassing ?kn_NoPassing ?sa_NoPassing ?ex_NoPassing ?ty_NoPassing ?kp_NoPassing ?ga_NoPassing ?gg_NoPassing ?ic_NoPassing ?ca_NoPassing ?ob_NoPassing ?cn_NoPassing ?icb_NoPassing ?mr_NoPassing ?si_NoPassing ?sb_NoPassing ?noc_NoPassing ?hd_NoPassing ?ss_NoPassing ?ini_NoPassing ?nof_NoPassing ?a_CarriageDay ?pg_CarriageDay ?hd_CarriageDay ?po_CarriageDay ?sa_CarriageDay ?kp_CarriageDay ?mki_CarriageDay ?ob_CarriageDay ?ic_CarriageDay ?tm_CarriageDay ?nfo_CarriageDay ?clo_CarriageDay ?gto_CarriageDay ?tko_CarriageDay ?na_CarriageDay_all_facts ?na_CarriageDay_carriage ?na_CarriageDay_day ?na_CarriageDay_order ?na_CarriageDay_free ?na_CarriageDay_lost ?na_CarriageDay_boards ?at_c_CarriageDay_init ?fn_c_CarriageDay_init ?lk_c_CarriageDay_init ?cd_ok_c_CarriageDay_init ?kf_c_CarriageDay_init ?at_c_CarriageDay_hindrance ?fn_c_CarriageDay_hindrance ?lk_c_CarriageDay_hindrance ?cd_ok_c_CarriageDay_hindrance ?kf_c_CarriageDay_hindrance ?at_c_CarriageDay_told_row ?fn_c_CarriageDay_told_row ?lk_c_CarriageDay_told_row ?cd_ok_c_CarriageDay_told_row ?kf_c_CarriageDay_told_row ?at_c_CarriageDay_walk ?fn_c_CarriageDay_walk ?lk_c_CarriageDay_walk ?cd_ok_c_CarriageDay_walk ?kf_c_CarriageDay_walk
    (case a0 => k_is)
    (case l0 => k_is)
    (case c0 => k_is)
    (case k0 => k_is)
    (case a1 => k_is)
    (case l1 => k_is)
    (case c1 => k_is)
    (case k1 => k_is)
    (case a2 => k_is)
    (case l2 => k_is)
    (case c2 => k_is)
    (case k2 => k_is)
    (case a3 => k_is)
    (case l3 => k_is)
    (case c3 => k_is)
    (case k3 => k_is)
    (case a4 => k_is)
    (case l4 => k_is)
    (case c4 => k_is)
    (case k4 => k_is)
    (case a5 => k_is)
    (case l5 => k_is)
    (case c5 => k_is)
    (case k5 => k_is)
    (case a6 => k_is)
    (case l6 => k_is)
    (case c6 => k_is)
    (case k6 => k_is)
    (case a7 => k_is)
    (case l7 => k_is)
    (case c7 => k_is)
    (case k7 => k_is)
    (case a8 => k_is)
    (case l8 => k_is)
    (case c8 => k_is)
    (case k8 => k_is)
    (case a9 => k_is)
    (case l9 => k_is)
    (case c9 => k_is)
    (case k9 => k_is)
    (case a10 => k_is)
    (case l10 => k_is)
    (case c10 => k_is)
    (case k10 => k_is)
    (case a11 => k_is)
    (case l11 => k_is)
    (case c11 => k_is)
    (case k11 => k_is)
    (case a12 => k_is)
    (case l12 => k_is)
    (case c12 => k_is)
    (case k12 => k_is)
    (case a13 => k_is)
    (case l13 => k_is)
    (case c13 => k_is)
    (case k13 => k_is)
    (case a14 => k_is)
    (case l14 => k_is)
    (case c14 => k_is)
    (case k14 => k_is)
    (case a15 => k_is)
    (case l15 => k_is)
    (case c15 => k_is)
    (case k15 => k_is)
    (case a16 => k_is)
    (case l16 => k_is)
    (case c16 => k_is)
    (case k16 => k_is)
    (case a17 => k_is)
    (case l17 => k_is)
    (case c17 => k_is)
    (case k17 => k_is)
    (case a18 => k_is)
    (case l18 => k_is)
    (case c18 => k_is)
    (case k18 => k_is)
    (case a19 => k_is)
    (case l19 => k_is)
    (case c19 => k_is)
    (case k19 => k_is)
    (case a20 => k_is)
    (case l20 => k_is)
    (case c20 => k_is)
    (case k20 => k_is)
    (case a21 => k_is)
    (case l21 => k_is)
    (case c21 => k_is)
    (case k21 => k_is)
    (case a22 => k_is)
    (case l22 => k_is)
    (case c22 => k_is)
    (case k22 => k_is)
    (case a23 => k_is)
    (case l23 => k_is)
    (case c23 => k_is)
    (case k23 => k_is)
    (case a24 => k_is)
    (case l24 => k_is)
    (case c24 => k_is)
    (case k24 => k_is)
    (case a25 => k_is)
    (case l25 => k_is)
    (case c25 => k_is)
    (case k25 => k_is)
    (case a26 => k_is)
    (case l26 => k_is)
    (case c26 => k_is)
    (case k26 => k_is)
    (case a27 => k_is)
    (case l27 => k_is)
    (case c27 => k_is)
    (case k27 => k_is)
    (case a28 => k_is)
    (case l28 => k_is)
    (case c28 => k_is)
    (case k28 => k_is)
    (case a29 => k_is)
    (case l29 => k_is)
    (case c29 => k_is)
    (case k29 => k_is)
    (case aL => k_is)
    (case lL => k_is)
    (case cL => k_is)
    (case kL => k_is)
    (case z_len => k_is)
    (case z_isinstance => k_is)
    (case z_tuple => k_is)
    (case z_list => k_is)
    (case z_bool => k_is)
    (case z_range => k_is)
    (case z_int => k_is)
    (case z_set => k_is)
    (case z_sorted => k_is)
    (case z_min => k_is)
    (case z_all => k_is)
    (case k_WEEK => k_is)
    (case k_SUNDAY => k_is)
    (case a_BOUNDS => k_is)
    (case ld_BOUNDS => k_is)
    (case kl_BOUNDS => k_keys)
    (case ek_BOUNDS_number => k_is)
    (case lt_BOUNDS_number => k_is)
    (case z_super => k_is)
    (case htop => first | rfl | decide +kernel)
    (case xst => k_is)
    (case xsp => k_is)
    (case xtk => k_is)
    (case a_Missing => k_is)
    (case a_NoPassing => k_is)
    (case at_c_Missing_init => k_is)
    (case lk_c_Missing_init => k_is)
    (case cdk_c_Missing_init => k_is)
    (case kf_c_Missing_init => k_is)
    (case tyf_c_Missing_init => k_is)
    (case fnf_c_Missing_init => k_is)
    (case lc_c_Missing_init => k_is)
    (case ld_c_Missing_init => k_is)
    (case hv_c_Missing_init => rfl)
    (case hf_c_Missing_init => first | rfl | decide +kernel)
    (case cl_NoPassing => k_is)
    (case rf_NoPassing => decide +kernel)
    (case kn_NoPassing => rfl)
    (case sa_NoPassing => k_is)
    (case ex_NoPassing => k_is)
    (case ty_NoPassing => k_is)
    (case kp_NoPassing => k_is)
    (case ga_NoPassing => k_is)
    (case gg_NoPassing => k_is)
    (case ic_NoPassing => k_is)
    (case ca_NoPassing => k_is)
    (case ob_NoPassing => k_is)
    (case cn_NoPassing => k_is)
    (case icb_NoPassing => k_is)
    (case mr_NoPassing => k_is)
    (case si_NoPassing => ks_is)
    (case sb_NoPassing => k_is)
    (case noc_NoPassing => k_is)
    (case hd_NoPassing => k_is)
    (case ss_NoPassing => first | rfl | k_is)
    (case ini_NoPassing => k_is)
    (case nof_NoPassing => k_is)
    (case a_CarriageDay => k_is)
    (case pg_CarriageDay => k_is)
    (case hd_CarriageDay => k_is)
    (case po_CarriageDay => k_is)
    (case sa_CarriageDay => k_is)
    (case kp_CarriageDay => k_is)
    (case mki_CarriageDay => k_is)
    (case ob_CarriageDay => k_is)
    (case ic_CarriageDay => k_is)
    (case tm_CarriageDay => k_is)
    (case nfo_CarriageDay => k_is)
    (case clo_CarriageDay => k_is)
    (case gto_CarriageDay => k_is)
    (case tko_CarriageDay => k_is)
    (case na_CarriageDay_all_facts => k_is)
    (case na_CarriageDay_carriage => k_is)
    (case na_CarriageDay_day => k_is)
    (case na_CarriageDay_order => k_is)
    (case na_CarriageDay_free => k_is)
    (case na_CarriageDay_lost => k_is)
    (case na_CarriageDay_boards => k_is)
    (case at_c_CarriageDay_init => k_is)
    (case fn_c_CarriageDay_init => k_is)
    (case lk_c_CarriageDay_init => k_is)
    (case cd_ok_c_CarriageDay_init => k_is)
    (case kf_c_CarriageDay_init => k_is)
    (case at_c_CarriageDay_hindrance => k_is)
    (case fn_c_CarriageDay_hindrance => k_is)
    (case lk_c_CarriageDay_hindrance => k_is)
    (case cd_ok_c_CarriageDay_hindrance => k_is)
    (case kf_c_CarriageDay_hindrance => k_is)
    (case at_c_CarriageDay_told_row => k_is)
    (case fn_c_CarriageDay_told_row => k_is)
    (case lk_c_CarriageDay_told_row => k_is)
    (case cd_ok_c_CarriageDay_told_row => k_is)
    (case kf_c_CarriageDay_told_row => k_is)
    (case at_c_CarriageDay_walk => k_is)
    (case fn_c_CarriageDay_walk => k_is)
    (case lk_c_CarriageDay_walk => k_is)
    (case cd_ok_c_CarriageDay_walk => k_is)
    (case kf_c_CarriageDay_walk => k_is)
#print axioms PySem.Challenge.cw_pikeroll_k09_why_tickets_clear_not_holds
