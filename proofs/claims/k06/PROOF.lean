import PyProof.Rows.All
import Wide.All
import OpenK.AllK
import Wide.FinOn
import HandS.ForMost
import HandS.Wide
import HandS.IsInst
import HandS.FStr
import HandS.Defaults
import HandS.StrMore
import HandS.Style
import HandS.TupAny
import HandS.RaiseMore
import HandS.Walk
import HandS.Steps
import HandS.Evl
import HandS.ForExc
import HandS.TryMany
import HandS.TryOnly
import HandS.Replace
import PyProof.Rows.StrPadFill
import HandS.TupLe
import HandS.Strs
import HandS.More
import PyProof.Rows.SetFrom
import KE.KStar
import PySem.Challenge.RW_pikeroll_k06_what_holds_on_a_day
set_option Elab.async false
set_option linter.all false
set_option maxRecDepth 100000
/-! The verifier's own layer: readings step by step, heaps that grow, the drawing bag. -/
namespace Z
open PySem L2

/-- a new object -/
def NewO (o : HO) (H : Hp) (Q : VK) : Prop := ∀ p, H p = none → Q (.ref p) (upd H p o)
/-- all that stood stands -/
def Ex (H H' : Hp) : Prop := ∀ a o, H a = some o → H' a = some o
theorem Ex.new {H : Hp} {p : Addr} {o : HO} (h : H p = none) : Ex H (upd H p o) := fun a u e => by
  rw [upd_ne (ne_of_none e h)]
  exact e
theorem s_new {H : Hp} {Q : VK} {o : HO} (k : ∀ p H', H p = none → Ex H H' → H' p = some o → Q (.ref p) H') : NewO o H Q := fun p hp => k p _ hp (Ex.new hp) upd_same
theorem s_newS {H : Hp} {Q : VK} {o : HO} {n : Nat} (h : n ≤ sizeLine) (k : ∀ p H', H p = none → Ex H H' → H' p = some o → Q (.ref p) H') : n ≤ sizeLine ∧ NewO o H Q := ⟨h, s_new k⟩
/-! ### steps of a reading -/
section
variable {K : PySem.W.Frag} {σ σ' : L2.St} {H H' : Hp} {Q : VK} {ta tb tc te : TE} {t u : TT} {nx bk ct : L2.St → Hp → Prop} {rt : VK} {ts us : TS} {i j : Nat} {v x y : V} {r r' : R2}
theorem s_var (h : σ[i]? = some (some v)) (k : Q v H) : tVar i σ H Q := ⟨v, h, k⟩
theorem s_C (k : Q v H) : tC v σ H Q := k
theorem s_op (k : ta σ H fun x H1 => tb σ H1 fun y H2 => r x y H2 Q) : tOp r ta tb σ H Q := k
theorem s_un {r : V → Hp → VK → Prop} (k : ta σ H fun x H1 => r x H1 Q) : tUn r ta σ H Q := k
theorem s_rI {C : Int → Int → Prop} {g : Int → Int → V} {a b : Int} (hc : C a b) (k : Q (g a b) H) : rI C g (.int a) (.int b) H Q := ⟨a, b, rfl, rfl, hc, k⟩
theorem s_rI0 {g : Int → Int → V} {a b : Int} (k : Q (g a b) H) : rI0 g (.int a) (.int b) H Q := ⟨a, b, rfl, rfl, k⟩
theorem s_rU {g : Int → V} {a : Int} (k : Q (g a) H) : rU g (.int a) H Q := ⟨a, rfl, k⟩
theorem s_rEq (h : scal x y = true) (k : Q (.bl (decide (x = y))) H) : rEq x y H Q := ⟨h, k⟩
theorem s_rNe (h : scal x y = true) (k : Q (.bl (!decide (x = y))) H) : rNe x y H Q := ⟨h, k⟩
theorem s_rEqI {a b : Int} (k : Q (.bl (decide (a = b))) H) : rEq (.int a) (.int b) H Q := ⟨rfl, by
  have e : decide (V.int a = V.int b) = decide (a = b) := by simp
  rw [e]; exact k⟩
theorem s_rNeI {a b : Int} (k : Q (.bl (!decide (a = b))) H) : rNe (.int a) (.int b) H Q := ⟨rfl, by
  have e : decide (V.int a = V.int b) = decide (a = b) := by simp
  rw [e]; exact k⟩
theorem s_rEqS {a b : Str} (k : Q (.bl (decide (a = b))) H) : rEq (.str a) (.str b) H Q := ⟨rfl, by
  have e : decide (V.str a = V.str b) = decide (a = b) := by simp
  rw [e]; exact k⟩
theorem s_rNeS {a b : Str} (k : Q (.bl (!decide (a = b))) H) : rNe (.str a) (.str b) H Q := ⟨rfl, by
  have e : decide (V.str a = V.str b) = decide (a = b) := by simp
  rw [e]; exact k⟩
theorem s_rEqB {a b : Bool} (k : Q (.bl (a == b)) H) : rEq (.bl a) (.bl b) H Q := ⟨rfl, by
  have e : decide (V.bl a = V.bl b) = (a == b) := by cases a <;> cases b <;> rfl
  rw [e]; exact k⟩
theorem s_rNeB {a b : Bool} (k : Q (.bl (a != b)) H) : rNe (.bl a) (.bl b) H Q := ⟨rfl, by
  have e : (!decide (V.bl a = V.bl b)) = (a != b) := by cases a <;> cases b <;> rfl
  rw [e]; exact k⟩
theorem s_tB {R : Bool → Hp → Prop} (k : te σ H fun x H1 => ∃ c, x = .bl c ∧ R c H1) : tB te σ H R := k
theorem s_tTest {R : Bool → Hp → Prop} (k : te σ H fun x H1 => ∃ c, x = .bl c ∧ R c H1) : tTest te σ H R := k
theorem s_bl {c : Bool} {R : Bool → Prop} (k : R c) : ∃ c', V.bl c = .bl c' ∧ R c' := ⟨c, rfl, k⟩
theorem s_and {R : Bool → Hp → Prop} (k : t σ H fun c H1 => if c = true then u σ H1 R else R false H1) : tAnd t u σ H R := k
theorem s_or {R : Bool → Hp → Prop} (k : t σ H fun c H1 => if c = true then R true H1 else u σ H1 R) : tOr t u σ H R := k
theorem s_not {R : Bool → Hp → Prop} (k : t σ H fun c H1 => R (!c) H1) : tNot t σ H R := k
theorem s_andV (k : ta σ H fun x H1 => ∃ c, x = .bl c ∧ if c = true then tb σ H1 Q else Q (.bl false) H1) : tAndV ta tb σ H Q := k
theorem s_orV (k : ta σ H fun x H1 => ∃ c, x = .bl c ∧ if c = true then Q (.bl true) H1 else tb σ H1 Q) : tOrV ta tb σ H Q := k
theorem s_notV (k : ta σ H fun x H1 => ∃ c, x = .bl c ∧ Q (.bl (!c)) H1) : tNotV ta σ H Q := k
theorem s_ifE (k : t σ H fun c H1 => if c = true then ta σ H1 Q else tb σ H1 Q) : tIf t ta tb σ H Q := k
theorem s_chain (k : ta σ H fun x H1 => tb σ H1 fun y H2 => r x y H2 fun z H3 => ∃ c, z = .bl c ∧ (if c = true then tc σ H3 fun w H4 => r' y w H4 Q else Q (.bl false) H3)) : tChain r r' ta tb tc σ H Q := k
theorem s_nil {R : List V → Hp → Prop} (k : R [] H) : tNil σ H R := k
theorem s_cons {tr : TA} {R : List V → Hp → Prop} (k : ta σ H fun x H1 => tr σ H1 fun xs H2 => R (x :: xs) H2) : tCons ta tr σ H R := k
theorem s_CB {r : List V → Hp → VK → Prop} {tr : TA} (k : tr σ H fun vs H1 => r vs H1 Q) : tCB r tr σ H Q := k
theorem s_call {sp : Sp} {dvs : List V} {E : XK} {tr : TA} (k : tr σ H fun vs H1 => sp (vs ++ dvs) H1 Q E) : tCall sp dvs E tr σ H Q := k
theorem s_fld {f : Str} (k : ta σ H fun x H1 => ∃ a C dx fs v, x = .ref a ∧ H1 a = some (.ins C dx fs) ∧ Cls K C ∧ NoAttr K C f ∧ fs.lookup f = some v ∧ Q v H1) : tFld K ta f σ H Q := k
theorem s_sl {r : V → Option Int → Option Int → Hp → VK → Prop} {tl th : TO} (k : te σ H fun x H1 => tl σ H1 fun l H2 => th σ H2 fun u H3 => r x l u H3 Q) : tSl r te tl th σ H Q := k
theorem s_noPart {R : Option Int → Hp → Prop} (k : R none H) : tNoPart σ H R := k
def PartI (x : V) (R : Option Int → Hp → Prop) (H : Hp) : Prop := ∃ a, x = .int a ∧ R (some a) H
theorem s_part {R : Option Int → Hp → Prop} (k : te σ H fun x H1 => PartI x R H1) : tPart te σ H R := k
theorem s_partI {a : Int} {R : Option Int → Hp → Prop} (k : R (some a) H) : PartI (.int a) R H := ⟨a, rfl, k⟩
theorem s_bm {T : String} {r : V → List V → Hp → VK → Prop} {tr : TA} (k : ta σ H fun x H1 => tyV K T x H1 ∧ tr σ H1 fun xs H2 => r x xs H2 Q) : tBM K T r ta tr σ H Q := k
theorem s_bm0 {T : String} {r : V → List V → Hp → VK → Prop} (k : ta σ H fun x H1 => tyV K T x H1 ∧ r x [] H1 Q) : tBM0 K T r ta σ H Q := k
theorem s_m0 {r : V → List V → Hp → VK → Prop} (k : ta σ H fun x H1 => (∃ a, x = .str a) ∧ r x [] H1 Q) : tM0 r ta σ H Q := k
theorem s_m1 {r : V → List V → Hp → VK → Prop} (k : ta σ H fun x H1 => (∃ a, x = .str a) ∧ tb σ H1 fun y H2 => r x [y] H2 Q) : tM1 r ta tb σ H Q := k
theorem at_start {D : Ends} {ρ ρ' : L2.St} (e : ρ = ρ') (k : ts D ρ' H) : ts D ρ H := by
  rw [e]
  exact k
theorem s_isStr {z : Str} {R : Prop} (k : R) : (∃ a, V.str z = .str a) ∧ R := ⟨⟨z, rfl⟩, k⟩
/-! statements: the ends stay written out -/
theorem s_next (k : nx σ H) : tNext ⟨nx, rt, bk, ct⟩ σ H := k
theorem s_seq (k : ts ⟨us ⟨nx, rt, bk, ct⟩, rt, bk, ct⟩ σ H) : tSeq ts us ⟨nx, rt, bk, ct⟩ σ H := k
theorem s_cut (M : L2.St → Hp → Prop) (h : ts ⟨M, rt, bk, ct⟩ σ H) (k : ∀ ρ H', M ρ H' → us ⟨nx, rt, bk, ct⟩ ρ H') : Evl.tCut ts us ⟨nx, rt, bk, ct⟩ σ H := ⟨M, h, k⟩
theorem s_break (k : bk σ H) : tBreak ⟨nx, rt, bk, ct⟩ σ H := k
theorem s_cont (k : ct σ H) : tCont ⟨nx, rt, bk, ct⟩ σ H := k
theorem s_drop (k : te σ H fun _ H1 => nx σ H1) : tDrop te ⟨nx, rt, bk, ct⟩ σ H := k
theorem s_ret (k : te σ H rt) : tRet te ⟨nx, rt, bk, ct⟩ σ H := k
theorem s_retN (k : rt .non H) : tRetN ⟨nx, rt, bk, ct⟩ σ H := k
theorem s_ifS (k : t σ H fun b H1 => if b = true then ts ⟨nx, rt, bk, ct⟩ σ H1 else us ⟨nx, rt, bk, ct⟩ σ H1) : tIfS t ts us ⟨nx, rt, bk, ct⟩ σ H := k
theorem s_set (k : te σ H fun x H1 => nx (σ.set i (some x)) H1) : tAsg te (gName i) ⟨nx, rt, bk, ct⟩ σ H := k
theorem s_asg {g : TG} (k : te σ H fun x H1 => g x σ H1 nx) : tAsg te g ⟨nx, rt, bk, ct⟩ σ H := k
theorem s_par {tr : TA} (k : tr σ H fun vs H1 => ∃ v w, vs = [v, w] ∧ nx ((σ.set i (some v)).set j (some w)) H1) : tPar i j tr ⟨nx, rt, bk, ct⟩ σ H := k
theorem s_parI {v w : V} {R : V → V → Prop} (k : R v w) : ∃ v' w', [v, w] = [v', w'] ∧ R v' w' := ⟨v, w, rfl, k⟩
theorem s_gName {R : L2.St → Hp → Prop} (k : R (σ.set i (some v)) H) : gName i v σ H R := k
theorem s_gSub {tS : TSet} {R : L2.St → Hp → Prop} (k : ta σ H fun o H1 => tb σ H1 fun i H2 => tS o i v H2 fun H3 => R σ H3) : gSub ta tb tS v σ H R := k
theorem s_gTup {n : Nat} {tg : TGs} {a : Addr} {xs : List V} {R : L2.St → Hp → Prop} (h : SqT K H a xs) (hn : xs.length = n) (k : tg xs σ H R) : gTup K n tg (.ref a) σ H R := ⟨a, xs, rfl, h, hn, k⟩
theorem s_gCons {tg : TG} {tgs : TGs} {xs : List V} {R : L2.St → Hp → Prop} (k : tg v σ H fun σ1 H1 => tgs xs σ1 H1 R) : gCons tg tgs (v :: xs) σ H R := ⟨v, xs, rfl, k⟩
theorem s_gNil {R : L2.St → Hp → Prop} (k : R σ H) : gNil [] σ H R := ⟨rfl, k⟩
theorem s_tup {tr : TA} (k : tr σ H fun xs H1 => xs.length ≤ sizeLine ∧ NewO (.tup xs) H1 Q) : tTup tr σ H Q := k
theorem s_lst {tr : TA} (k : tr σ H fun xs H1 => xs.length ≤ sizeLine ∧ NewO (.lst xs) H1 Q) : tLst tr σ H Q := k
theorem s_ixL {p : Addr} {xs : List V} {a : Int} (h : SqL K H p xs) (e : atI xs a = some v) (k : Q v H) : rIxL K (.ref p) (.int a) H Q := ⟨p, xs, a, v, rfl, rfl, h, e, k⟩
theorem s_ixT {p : Addr} {xs : List V} {a : Int} (h : SqT K H p xs) (e : atI xs a = some v) (k : Q v H) : rIxT K (.ref p) (.int a) H Q := ⟨p, xs, a, v, rfl, rfl, h, e, k⟩
theorem s_setL {p : Addr} {xs : List V} {a : Int} {m : Nat} {R : Hp → Prop} (h : H p = some (.lst xs)) (e : ixN xs.length a = some m) (k : R (upd H p (.lst (xs.set m v)))) : rSetL (.ref p) (.int a) v H R := ⟨p, xs, a, m, rfl, rfl, h, e, k⟩
theorem s_slL {a : Addr} {xs : List V} {lo hi : Option Int} (h : SqL K H a xs) (k : NewO (.lst (cutV xs lo hi)) H Q) : rSlL K (.ref a) lo hi H Q := ⟨a, xs, rfl, h, k⟩
theorem s_slS {z : Str} {lo hi : Option Int} (h : z.length ≤ sizeLine) (k : Q (.str (cutS z lo hi)) H) : rSlS (.str z) lo hi H Q := ⟨z, rfl, h, k⟩
theorem s_len {p : Addr} {xs : List V} (h : SqL K H p xs ∨ SqT K H p xs) (k : Q (.int xs.length) H) : ∃ q ys, [V.ref p] = [V.ref q] ∧ (SqL K H q ys ∨ SqT K H q ys) ∧ Q (.int ys.length) H := ⟨p, xs, rfl, h, k⟩
/-! ifs -/
theorem ite_both {c : Bool} {A B : Prop} (h1 : c = true → A) (h2 : c = false → B) : if c = true then A else B := by
  cases c with
  | true => rw [if_pos rfl]; exact h1 rfl
  | false => rw [if_neg (by decide)]; exact h2 rfl
theorem ite_dec {p A B : Prop} {ip : Decidable p} (h1 : p → A) (h2 : ¬ p → B) : if decide p = true then A else B :=
  ite_both (fun h => h1 (of_decide_eq_true h)) (fun h => h2 (of_decide_eq_false h))
theorem ite_ndec {p A B : Prop} {ip : Decidable p} (h1 : ¬ p → A) (h2 : p → B) : if (!decide p) = true then A else B :=
  ite_both (fun h => h1 (by simpa using h)) (fun h => h2 (by simpa using h))
theorem ite_t {A B : Prop} (h : A) : if true = true then A else B := by rw [if_pos rfl]; exact h
theorem ite_f {A B : Prop} (h : B) : if false = true then A else B := by rw [if_neg (by decide)]; exact h
theorem ite_pos {p A B : Prop} {ip : Decidable p} (hp : p) (h : A) : if decide p = true then A else B := by rw [if_pos (decide_eq_true hp)]; exact h
theorem ite_neg {p A B : Prop} {ip : Decidable p} (hp : ¬ p) (h : B) : if decide p = true then A else B := by rw [if_neg (by simpa using hp)]; exact h
theorem ite_npos {p A B : Prop} {ip : Decidable p} (hp : ¬ p) (h : A) : if (!decide p) = true then A else B := by rw [if_pos (by simpa using hp)]; exact h
theorem ite_nneg {p A B : Prop} {ip : Decidable p} (hp : p) (h : B) : if (!decide p) = true then A else B := by rw [if_neg (by simpa using hp)]; exact h
/-! loops -/
/-- the loop's word, said for any walk: J, its turns n, G what stands still, Y what it yields -/
def Loops (J : It) (g : TG) (ts : TS) (nx : L2.St → Hp → Prop) (rt : VK) (σ : L2.St) (H : Hp) : Prop := ∃ W : Nat → Nat → L2.St → Hp → Prop, (∃ m, W 0 m σ H) ∧ ∀ i m σ H, W i m σ H →
      (J.stop i H ∧ nx σ H) ∨ (J.go i H ∧ ∃ N : L2.St → Hp → Prop, (∀ σ' H', N σ' H' → ∃ m', m' < m ∧ W (i + 1) m' σ' H') ∧ ∀ x H', J.yld i H x H' → g x σ H' fun σ2 H2 => ts ⟨N, rt, nx, N⟩ σ2 H2)
theorem s_for {wi : TI} {g : TG} (k : wi σ H fun J H1 => Loops J g ts nx rt σ H1) : tFor wi g ts ⟨nx, rt, bk, ct⟩ σ H := k
theorem s_iRng1 {tr : TA} {R : It → Hp → Prop} (k : tr σ H fun vs H1 => ∃ j : Int, vs = [.int j] ∧ -(2 ^ 62) ≤ j ∧ j < 2 ^ 62 ∧ R (Itr 0 j.toNat) H1) : iRng1 tr σ H R := k
theorem s_iRng2 {tr : TA} {R : It → Hp → Prop} (k : tr σ H fun vs H1 => ∃ i j : Int, vs = [.int i, .int j] ∧ (-(2 ^ 62) ≤ i ∧ i < 2 ^ 62 ∧ -(2 ^ 62) ≤ j ∧ j < 2 ^ 62) ∧ R (Itr i (j - i).toNat) H1) : iRng2 tr σ H R := k
theorem s_iList {R : It → Hp → Prop} (k : te σ H fun x H1 => ∃ a, x = .ref a ∧ (∃ xs, SqL K H1 a xs) ∧ R (Itl K a) H1) : iList K te σ H R := k
theorem s_iTup {R : It → Hp → Prop} (k : te σ H fun x H1 => ∃ a, x = .ref a ∧ (∃ xs, SqT K H1 a xs) ∧ R (Itt K a) H1) : iTup K te σ H R := k
theorem s_iStr {R : It → Hp → Prop} (k : te σ H fun v H1 => ∃ x, v = .str x ∧ R (Its x) H1) : iStr te σ H R := k
theorem s_iEnum {tr : TA} {R : It → Hp → Prop} (k : tr σ H fun vs H1 => ∃ a xs, vs = [.ref a] ∧ SqL K H1 a xs ∧ R (Ite K a) H1) : iEnum K tr σ H R := k
theorem loops_of {J : It} {n : Nat} {G : Hp → Prop} {Y : Nat → Hp → V → Hp → Prop} {g : TG} (w : Walk J n G Y) (Pv : Nat → L2.St → Hp → Prop) (h0 : Pv 0 σ H) (hG : ∀ i σ H, i ≤ n → Pv i σ H → G H)
    (hs : ∀ i x σ H H', i < n → Pv i σ H → Y i H x H' → g x σ H' fun σ2 H2 => ts ⟨Pv (i + 1), rt, nx, Pv (i + 1)⟩ σ2 H2) (hd : ∀ σ H, Pv n σ H → nx σ H) : Loops J g ts nx rt σ H :=
  for_it (D := ⟨nx, rt, fun _ _ => False, fun _ _ => False⟩) w Pv h0 hG hs hd
/-- range(n), as it stands behind the arguments -/
theorem l_range {g : TG} {n : Int} (b : -(2 ^ 62) ≤ n ∧ n < 2 ^ 62) (Pv : Nat → L2.St → Hp → Prop) (h0 : Pv 0 σ H)
    (hs : ∀ (i : Nat) σ H, (i : Int) < n → Pv i σ H → g (.int (i : Int)) σ H fun σ2 H2 => ts ⟨Pv (i + 1), rt, nx, Pv (i + 1)⟩ σ2 H2) (hd : ∀ σ H, Pv n.toNat σ H → nx σ H) :
    ∃ j : Int, [V.int n] = [.int j] ∧ -(2 ^ 62) ≤ j ∧ j < 2 ^ 62 ∧ Loops (Itr 0 j.toNat) g ts nx rt σ H :=
  ⟨n, rfl, b.1, b.2, loops_of walk_range Pv h0 (fun _ _ _ _ _ => trivial) (fun i x σ H H' hi p y => by
    obtain ⟨e, y⟩ := y
    subst e y
    have e0 : (0 : Int) + (i : Int) = (i : Int) := Int.zero_add _
    dsimp only
    rw [e0]
    exact hs i σ _ (by omega) p) hd⟩
/-- range(lo, hi) -/
theorem l_range2 {g : TG} {lo n : Int} (b : -(2 ^ 62) ≤ lo ∧ lo < 2 ^ 62 ∧ -(2 ^ 62) ≤ n ∧ n < 2 ^ 62) (Pv : Nat → L2.St → Hp → Prop) (h0 : Pv 0 σ H)
    (hs : ∀ (i : Nat) σ H, lo + (i : Int) < n → Pv i σ H → g (.int (lo + (i : Int))) σ H fun σ2 H2 => ts ⟨Pv (i + 1), rt, nx, Pv (i + 1)⟩ σ2 H2) (hd : ∀ σ H, Pv (n - lo).toNat σ H → nx σ H) :
    ∃ i j : Int, [V.int lo, V.int n] = [.int i, .int j] ∧ (-(2 ^ 62) ≤ i ∧ i < 2 ^ 62 ∧ -(2 ^ 62) ≤ j ∧ j < 2 ^ 62) ∧ Loops (Itr i (j - i).toNat) g ts nx rt σ H :=
  ⟨lo, n, rfl, b, loops_of walk_range Pv h0 (fun _ _ _ _ _ => trivial) (fun i x σ H H' hi p y => by
    obtain ⟨e, y⟩ := y
    subst e y
    exact hs i σ _ (by omega) p) hd⟩
/-- a list -/
theorem l_list {g : TG} {a : Addr} (xs : List V) (Pv : Nat → L2.St → Hp → Prop) (h0 : Pv 0 σ H) (hG : ∀ i σ H, i ≤ xs.length → Pv i σ H → SqL K H a xs)
    (hs : ∀ i x σ H, xs[i]? = some x → Pv i σ H → g x σ H fun σ2 H2 => ts ⟨Pv (i + 1), rt, nx, Pv (i + 1)⟩ σ2 H2) (hd : ∀ σ H, Pv xs.length σ H → nx σ H) :
    ∃ a', V.ref a = .ref a' ∧ (∃ xs, SqL K H a' xs) ∧ Loops (Itl K a') g ts nx rt σ H :=
  ⟨a, rfl, ⟨xs, hG 0 σ H (Nat.zero_le _) h0⟩, loops_of walk_list Pv h0 hG (fun i x σ H H' hi p y => by
    obtain ⟨e, y⟩ := y
    subst e
    exact hs i x σ _ y p) hd⟩
/-- a tuple -/
theorem l_tup {g : TG} {a : Addr} (xs : List V) (Pv : Nat → L2.St → Hp → Prop) (h0 : Pv 0 σ H) (hG : ∀ i σ H, i ≤ xs.length → Pv i σ H → SqT K H a xs)
    (hs : ∀ i x σ H, xs[i]? = some x → Pv i σ H → g x σ H fun σ2 H2 => ts ⟨Pv (i + 1), rt, nx, Pv (i + 1)⟩ σ2 H2) (hd : ∀ σ H, Pv xs.length σ H → nx σ H) :
    ∃ a', V.ref a = .ref a' ∧ (∃ xs, SqT K H a' xs) ∧ Loops (Itt K a') g ts nx rt σ H :=
  ⟨a, rfl, ⟨xs, hG 0 σ H (Nat.zero_le _) h0⟩, loops_of walk_tup Pv h0 hG (fun i x σ H H' hi p y => by
    obtain ⟨e, y⟩ := y
    subst e
    exact hs i x σ _ y p) hd⟩
/-- a text -/
theorem l_str {g : TG} {z : Str} (Pv : Nat → L2.St → Hp → Prop) (h0 : Pv 0 σ H)
    (hs : ∀ i c σ H, z.cps[i]? = some c → Pv i σ H → g (.str ⟨#[c]⟩) σ H fun σ2 H2 => ts ⟨Pv (i + 1), rt, nx, Pv (i + 1)⟩ σ2 H2) (hd : ∀ σ H, Pv z.cps.size σ H → nx σ H) :
    ∃ x, V.str z = .str x ∧ Loops (Its x) g ts nx rt σ H :=
  ⟨z, rfl, loops_of walk_str Pv h0 (fun _ _ _ _ _ => trivial) (fun i x σ H H' hi p y => by
    obtain ⟨e, c, y1, y2⟩ := y
    subst e y2
    exact hs i c σ _ y1 p) hd⟩
/-- a while's turn: behind it the word holds at a lesser measure -/
def WhB (W : Nat → L2.St → Hp → Prop) (m : Nat) (ts : TS) (rt : VK) (nx : L2.St → Hp → Prop) (σ : L2.St) (H : Hp) : Prop := ∃ N : L2.St → Hp → Prop, (∀ σ' H', N σ' H' → ∃ m', m' < m ∧ W m' σ' H') ∧ ts ⟨N, rt, nx, N⟩ σ H
theorem s_whB {W : Nat → L2.St → Hp → Prop} {m : Nat} (k : ts ⟨fun σ' H' => ∃ m', m' < m ∧ W m' σ' H', rt, nx, fun σ' H' => ∃ m', m' < m ∧ W m' σ' H'⟩ σ H) : WhB W m ts rt nx σ H := ⟨_, fun _ _ h => h, k⟩
/-- a while: its word and its measure -/
theorem l_while (W : Nat → L2.St → Hp → Prop) (h0 : ∃ m, W m σ H)
    (hs : ∀ m σ H, W m σ H → t σ H fun b H1 => if b = true then WhB W m ts rt nx σ H1 else nx σ H1) : tWhile t ts ⟨nx, rt, bk, ct⟩ σ H := ⟨W, h0, hs⟩
end

/-! ### heaps -/
/-- all but what stands at b -/
def Fr (b : Addr) (H H' : Hp) : Prop := ∀ a o, a ≠ b → H a = some o → H' a = some o
theorem Ex.refl {H : Hp} : Ex H H := fun _ _ h => h
theorem Ex.trans {H H1 H2 : Hp} (a : Ex H H1) (b : Ex H1 H2) : Ex H H2 := fun x o h => b x o (a x o h)
theorem Ex.mut {H H' : Hp} {p : Addr} {o : HO} (e : Ex H H') (h : H p = none) : Ex H (upd H' p o) := fun a u ha => by
  rw [upd_ne (ne_of_none ha h)]
  exact e a u ha
theorem Ex.back {H H' : Hp} {p : Addr} (e : Ex H H') (h : H' p = none) : H p = none := by
  cases h1 : H p with
  | none => rfl
  | some o =>
    rw [e p o h1] at h
    cases h
theorem Ex.fr {H H' : Hp} (b : Addr) (e : Ex H H') : Fr b H H' := fun a o _ h => e a o h
theorem Fr.refl {b : Addr} {H : Hp} : Fr b H H := fun _ _ _ h => h
theorem Fr.trans {b : Addr} {H H1 H2 : Hp} (x : Fr b H H1) (y : Fr b H1 H2) : Fr b H H2 := fun a o n h => y a o n (x a o n h)
theorem Fr.upd {b : Addr} {H : Hp} {o : HO} : Fr b H (upd H b o) := fun a u n h => by
  rw [upd_ne n]
  exact h
theorem Ex.sqL {K : PySem.W.Frag} {H H' : Hp} {a : Addr} {xs : List V} (e : Ex H H') (h : SqL K H a xs) : SqL K H' a xs := by
  rcases h with (h | ⟨o, h⟩) | h
  · exact .inl (.inl (e _ _ h))
  · exact .inl (.inr ⟨o, e _ _ h⟩)
  · exact .inr h
theorem Ex.sqT {K : PySem.W.Frag} {H H' : Hp} {a : Addr} {xs : List V} (e : Ex H H') (h : SqT K H a xs) : SqT K H' a xs := by
  rcases h with (h | ⟨o, h⟩) | h
  · exact .inl (.inl (e _ _ h))
  · exact .inl (.inr ⟨o, e _ _ h⟩)
  · exact .inr h
theorem sqL_ex {K : PySem.W.Frag} {H H' : Hp} {a : Addr} {xs : List V} (h : SqL K H a xs) (e : Ex H H') : SqL K H' a xs := e.sqL h
theorem sqT_ex {K : PySem.W.Frag} {H H' : Hp} {a : Addr} {xs : List V} (h : SqT K H a xs) (e : Ex H H') : SqT K H' a xs := e.sqT h
/-- the heap without what stands at b -/
def wo (b : Addr) (H : Hp) : Hp := fun a => if a = b then none else H a
theorem wo_some {b a : Addr} {H : Hp} {o : HO} (h : wo b H a = some o) : a ≠ b ∧ H a = some o := by
  unfold wo at h
  split at h
  · cases h
  · exact ⟨by assumption, h⟩
theorem wo_mk {b a : Addr} {H : Hp} {o : HO} (n : a ≠ b) (h : H a = some o) : wo b H a = some o := by
  unfold wo
  rw [if_neg n]
  exact h
theorem wo_ex {b : Addr} {H : Hp} : Ex (wo b H) H := fun _ _ h => (wo_some h).2
theorem Fr.wo {b : Addr} {H H' : Hp} (e : Fr b H H') : Ex (Z.wo b H) (Z.wo b H') := fun a o h => wo_mk (wo_some h).1 (e a o (wo_some h).1 (wo_some h).2)
theorem Ex.wo {b : Addr} {H H' : Hp} (e : Ex H H') : Ex (Z.wo b H) (Z.wo b H') := (e.fr b).wo
theorem ex_at {H H' : Hp} {a : Addr} {o : HO} (e : Ex H H') (h : H a = some o) : H' a = some o := e a o h
theorem fr_at {b : Addr} {H H' : Hp} {a : Addr} {o : HO} (e : Fr b H H') (n : a ≠ b) (h : H a = some o) : H' a = some o := e a o n h
theorem fr_none {b : Addr} {H H' : Hp} {l : Addr} (e : Fr b H H') (h : H' l = none) (n : l ≠ b) : H l = none := by
  cases q : H l with
  | none => rfl
  | some o =>
    rw [e l o n q] at h
    cases h
theorem upd_at {H : Hp} {a b : Addr} {o u : HO} (n : b ≠ a) (h : H b = some u) : upd H a o b = some u := by
  rw [upd_ne n]
  exact h
theorem ref_ne {a b : Addr} (h : V.ref a ≠ V.ref b) : a ≠ b := fun e => h (by rw [e])
/-! ### readings by name -/
def rLen (K : PySem.W.Frag) : List V → Hp → VK → Prop := fun xs H Q => ∃ p ys, xs = [.ref p] ∧ (SqL K H p ys ∨ SqT K H p ys) ∧ Q (.int ys.length) H
def rLenStr : List V → Hp → VK → Prop := fun xs H Q => ∃ z, xs = [.str z] ∧ z.length ≤ sizeLine ∧ Q (.int z.length) H
def rAbs : List V → Hp → VK → Prop := fun xs H Q => ∃ i, xs = [.int i] ∧ Q (.int (if i < 0 then -i else i)) H
def rMax2 : List V → Hp → VK → Prop := fun xs H Q => ∃ i j, xs = [.int i, .int j] ∧ Q (.int (if j > i then j else i)) H
def rMin2 : List V → Hp → VK → Prop := fun xs H Q => ∃ i j, xs = [.int i, .int j] ∧ Q (.int (if j < i then j else i)) H
def rInt1 : List V → Hp → VK → Prop := fun xs H Q => (∃ i, xs = [.int i] ∧ Q (.int i) H) ∨ ∃ k, xs = [.bl k] ∧ Q (.int (if k then 1 else 0)) H
def rStrInt : List V → Hp → VK → Prop := fun xs H Q => ∃ i : Int, xs = [.int i] ∧ i.natAbs.log2 < 1920 ∧ Q (.str (toString i)) H
def rListOf (K : PySem.W.Frag) : List V → Hp → VK → Prop := fun xs H Q => ∃ p ys, xs = [.ref p] ∧ (SqL K H p ys ∨ SqT K H p ys) ∧ ∀ l, H l = none → Q (.ref l) (upd H l (.lst ys))
def rTupleOf (K : PySem.W.Frag) : List V → Hp → VK → Prop := fun xs H Q => ∃ p ys, xs = [.ref p] ∧ ((SqL K H p ys ∧ ∀ l, H l = none → Q (.ref l) (upd H l (.tup ys))) ∨ (SqT K H p ys ∧ Q (.ref p) H))
def rDivmod : List V → Hp → VK → Prop := fun xs H Q => ∃ i j, xs = [.int i, .int j] ∧ CDiv i j ∧ ∀ p, H p = none → Q (.ref p) (upd H p (.tup [.int (i / j), .int (i % j)]))
def rAddStr : R2 := fun x y H Q => ∃ i j, x = .str i ∧ y = .str j ∧ i.length + j.length ≤ sizeLine ∧ Q (.str (i ++ j)) H
def rFind : V → List V → Hp → VK → Prop := fun x xs H Q => ∃ a b, x = .str a ∧ xs = [.str b] ∧ Q (.int (Txt.find a b)) H
def rRjust : V → List V → Hp → VK → Prop := fun x xs H Q => ∃ (a : Str) (i : Int), x = .str a ∧ xs = [.int i] ∧ PadOk i = true ∧ Q (.str (Txt.rjust a i)) H
section
variable {X : Cx}
theorem cz_len : CallR X (.builtin "len") (rLen X.K) := call_len_seq
theorem cz_lenStr : CallR X (.builtin "len") rLenStr := call_len_str
theorem cz_abs : CallR X (.builtin "abs") rAbs := call_abs
theorem cz_max2 (hc : X.calm = true) : CallR X (.builtin "max") rMax2 := call_max2 hc
theorem cz_min2 (hc : X.calm = true) : CallR X (.builtin "min") rMin2 := call_min2 hc
theorem cz_int1 : CallR X (.type "int") rInt1 := call_int1
theorem cz_strInt : CallR X (.type "str") rStrInt := call_str_int
theorem cz_listOf : CallR X (.type "list") (rListOf X.K) := call_list_of
theorem cz_tupleOf : CallR X (.type "tuple") (rTupleOf X.K) := call_tuple_of
theorem cz_divmod : CallR X (.builtin "divmod") rDivmod := call_divmod
theorem oz_addStr : OpR X (binaryOp .Add) rAddStr := op_add_str
theorem mz_find : MtR X "str.find" rFind := mt_find
def rRjust2 : V → List V → Hp → VK → Prop := fun x xs H Q => ∃ (a f : Str) (i : Int), x = .str a ∧ xs = [.int i, .str f] ∧ (PadOk i = true ∧ f.length = 1) ∧ Q (.str (Txt.rjustF a i (f.cps.getD 0 0))) H
theorem mz_rjust2 : MtR X "str.rjust" rRjust2 := by
  intro pins s σ H x xs v us Q I rx rs h
  obtain ⟨a, f, i, rfl, rfl, hc, h⟩ := h
  obtain ⟨t, rfl⟩ := rx
  cases rs with
  | cons r1 rs =>
    cases rs with
    | cons r2 rs =>
      cases rs
      obtain ⟨u, rfl⟩ := r1
      obtain ⟨z, rfl⟩ := r2
      exact PyProof.Rows.rjust_fill hc.1 hc.2 fun t' k => ⟨V.str (Txt.rjustF a i (f.cps.getD 0 0)), H, I.tok k, ⟨t', rfl⟩, h⟩
def rJoin (K : PySem.W.Frag) : V → List V → Hp → VK → Prop := fun x xs H Q => ∃ a p, ∃ ys : List Str, x = .str a ∧ xs = [.ref p] ∧ (SqL K H p (ys.map V.str) ∨ SqT K H p (ys.map V.str)) ∧
      (ys.map (·.length)).sum + ys.length * a.length ≤ 16777216 ∧ Q (.str (Txt.join a ys)) H
theorem mz_join : MtR X "str.join" (rJoin X.K) := mt_join
def rUpper : V → List V → Hp → VK → Prop := fun x xs H Q => ∃ a, x = .str a ∧ xs = [] ∧ a.length ≤ 5592405 ∧ Q (.str (Txt.upper a)) H
theorem mz_upper : MtR X "str.upper" rUpper := mt_upper
def rMulS : R2 := fun x y H Q => ∃ (a : Str) (n : Int), x = .str a ∧ y = .int n ∧ MulOk a n ∧ Q (.str (Txt.mul a n)) H
theorem oz_mulS : OpR X (binaryOp .Mult) rMulS := by
  intro pins s σ H x y v u Q I rx ry h
  obtain ⟨a, n, rfl, rfl, hc, h⟩ := h
  obtain ⟨t, rfl⟩ := rx
  obtain ⟨z, rfl⟩ := ry
  exact PySem.SB.mul hc fun t' k => ⟨V.str (Txt.mul a n), H, I.tok k, ⟨t', rfl⟩, h⟩
def tFS (ts : List TE) : TE := fun σ H Q => tJs ts Str.empty σ H fun out H1 => Q (.str out) H1
theorem pz_fstr {v1 v2 : Expr} {rest : List Expr} {ts : List TE} {pos : Pos} (h : PJ X (v1 :: v2 :: rest) ts) : PE X (.JoinedStr (v1 :: v2 :: rest) pos) (tFS ts) := pe_joined h
def rSindex : V → List V → Hp → VK → Prop := fun x xs H Q => ∃ a b i rest, x = .str a ∧ xs = [.str b] ∧ Builtin.Str.occurrences a b 0 a.length 1 = i :: rest ∧ Q (.int (i : Nat)) H
theorem mz_sindex : MtR X "str.index" rSindex := mt_sindex
theorem mz_rjust : MtR X "str.rjust" rRjust := mt_rjust
end
section
variable {K : PySem.W.Frag} {H : Hp} {Q : VK} {x : V}
theorem s_tyS {z : Str} {R : Prop} (k : R) : tyV K "str" (.str z) H ∧ R := ⟨by show "str" = "str"; rfl, k⟩
theorem s_tyL {a : Addr} {xs : List V} {R : Prop} (h : SqL K H a xs) (k : R) : tyV K "list" (.ref a) H ∧ R := ⟨.inl ⟨rfl, _, h⟩, k⟩
theorem s_rLen {p : Addr} {xs : List V} (h : SqL K H p xs ∨ SqT K H p xs) (k : Q (.int xs.length) H) : rLen K [.ref p] H Q := ⟨p, xs, rfl, h, k⟩
theorem s_rLenStr {z : Str} (h : z.length ≤ sizeLine) (k : Q (.int z.length) H) : rLenStr [.str z] H Q := ⟨z, rfl, h, k⟩
theorem s_rAbs {i : Int} (k : Q (.int (if i < 0 then -i else i)) H) : rAbs [.int i] H Q := ⟨i, rfl, k⟩
theorem s_rMax2 {i j : Int} (k : Q (.int (if j > i then j else i)) H) : rMax2 [.int i, .int j] H Q := ⟨i, j, rfl, k⟩
theorem s_rMin2 {i j : Int} (k : Q (.int (if j < i then j else i)) H) : rMin2 [.int i, .int j] H Q := ⟨i, j, rfl, k⟩
theorem s_rInt1 {i : Int} (k : Q (.int i) H) : rInt1 [.int i] H Q := .inl ⟨i, rfl, k⟩
theorem s_rIntB {c : Bool} (k : Q (.int (if c then 1 else 0)) H) : rInt1 [.bl c] H Q := .inr ⟨c, rfl, k⟩
theorem s_rStrInt {i : Int} (h : i.natAbs.log2 < 1920) (k : Q (.str (toString i)) H) : rStrInt [.int i] H Q := ⟨i, rfl, h, k⟩
theorem s_rListOf {p : Addr} {xs : List V} (h : SqL K H p xs ∨ SqT K H p xs) (k : NewO (.lst xs) H Q) : rListOf K [.ref p] H Q := ⟨p, xs, rfl, h, k⟩
theorem s_rTupleOf {p : Addr} {xs : List V} (h : SqL K H p xs) (k : NewO (.tup xs) H Q) : rTupleOf K [.ref p] H Q := ⟨p, xs, rfl, .inl ⟨h, k⟩⟩
theorem s_rDivmod {i j : Int} (h : CDiv i j) (k : NewO (.tup [.int (i / j), .int (i % j)]) H Q) : rDivmod [.int i, .int j] H Q := ⟨i, j, rfl, h, k⟩
theorem s_rAddStr {a b : Str} (h : a.length + b.length ≤ sizeLine) (k : Q (.str (a ++ b)) H) : rAddStr (.str a) (.str b) H Q := ⟨a, b, rfl, rfl, h, k⟩
theorem s_rFind {a b : Str} (k : Q (.int (Txt.find a b)) H) : rFind (.str a) [.str b] H Q := ⟨a, b, rfl, rfl, k⟩
theorem s_rJoin {a : Str} {p : Addr} {xs : List V} (ys : List Str) (h : SqL K H p xs ∨ SqT K H p xs) (e : xs = ys.map V.str) (z : (ys.map (·.length)).sum + ys.length * a.length ≤ 16777216) (k : Q (.str (Txt.join a ys)) H) : rJoin K (.str a) [.ref p] H Q := ⟨a, p, ys, rfl, rfl, by rw [← e]; exact h, z, k⟩
def RevV (K : PySem.W.Frag) (x : V) (H : Hp) (Q : VK) : Prop := ∃ a xs, x = .ref a ∧ SqL K H a xs ∧ ∀ p, H p = none → Q (.ref p) (upd H p (.lst xs.reverse))
theorem s_tRevL {te : TE} {σ : L2.St} (k : te σ H fun x H1 => RevV K x H1 Q) : tRevL K te σ H Q := k
theorem s_revV {a : Addr} {xs : List V} (h : SqL K H a xs) (k : NewO (.lst xs.reverse) H Q) : RevV K (.ref a) H Q := ⟨a, xs, rfl, h, k⟩
def AppV (x : V) (vs : List V) (H : Hp) (Q : VK) : Prop := rAppend x vs H Q
theorem s_app {l : Addr} {xs : List V} {y : V} (h : H l = some (.lst xs)) (z : xs.length < sizeLine) (k : ∀ H', Fr l H H' → H' l = some (.lst (xs ++ [y])) → Q .non H') : rAppend (.ref l) [y] H Q := ⟨l, xs, y, rfl, rfl, h, z, k _ Fr.upd upd_same⟩
theorem s_rRjust2 {a f : Str} {i : Int} (h : PadOk i = true ∧ f.length = 1) (k : Q (.str (Txt.rjustF a i (f.cps.getD 0 0))) H) : rRjust2 (.str a) [.int i, .str f] H Q := ⟨a, f, i, rfl, rfl, h, k⟩
theorem s_rRjust {a : Str} {i : Int} (h : PadOk i = true) (k : Q (.str (Txt.rjust a i)) H) : rRjust (.str a) [.int i] H Q := ⟨a, i, rfl, rfl, h, k⟩
theorem s_rAll {K : PySem.W.Frag} {p : Addr} (bs : List Bool) {xs : List V} (h : SqL K H p xs) (e : xs = bs.map V.bl) (k : Q (.bl (bs.all id)) H) : rAll K [.ref p] H Q := ⟨p, bs, rfl, by rw [← e]; exact h, k⟩
theorem s_rUpper {a : Str} (h : a.length ≤ 5592405) (k : Q (.str (Txt.upper a)) H) : rUpper (.str a) [] H Q := ⟨a, rfl, rfl, h, k⟩
theorem s_rMulS {a : Str} {n : Int} (h : MulOk a n) (k : Q (.str (Txt.mul a n)) H) : rMulS (.str a) (.int n) H Q := ⟨a, n, rfl, rfl, h, k⟩
def FmtV (x : V) (H : Hp) (Q : VK) : Prop := (∃ y : Str, x = .str y ∧ y.length ≤ sizeLine ∧ Q (.str y) H) ∨ ∃ i : Int, x = .int i ∧ i.natAbs.log2 < 1920 ∧ Q (.str (toString i)) H
def JsV (x : V) (acc : Str) (ts : List TE) (σ : L2.St) (H : Hp) (R : Str → Hp → Prop) : Prop := ∃ y : Str, x = .str y ∧ (acc ++ y).length ≤ sizeLine ∧ tJs ts (acc ++ y) σ H R
theorem s_tFmt {te : TE} {σ : L2.St} (k : te σ H fun x H1 => FmtV x H1 Q) : tFmt te σ H Q := k
theorem s_fmtS {y : Str} (h : y.length ≤ sizeLine) (k : Q (.str y) H) : FmtV (.str y) H Q := .inl ⟨y, rfl, h, k⟩
theorem s_fmtI {i : Int} (h : i.natAbs.log2 < 1920) (k : Q (.str (toString i)) H) : FmtV (.int i) H Q := .inr ⟨i, rfl, h, k⟩
theorem s_tFS {ts : List TE} {σ : L2.St} (k : tJs ts Str.empty σ H fun out H1 => Q (.str out) H1) : tFS ts σ H Q := k
theorem s_jsNil {acc : Str} {σ : L2.St} {R : Str → Hp → Prop} (k : R acc H) : tJs [] acc σ H R := k
theorem s_jsCons {t : TE} {ts : List TE} {acc : Str} {σ : L2.St} {R : Str → Hp → Prop} (k : t σ H fun x H1 => JsV x acc ts σ H1 R) : tJs (t :: ts) acc σ H R := k
theorem s_jsV {y acc : Str} {ts : List TE} {σ : L2.St} {R : Str → Hp → Prop} (h : (acc ++ y).length ≤ sizeLine) (k : tJs ts (acc ++ y) σ H R) : JsV (.str y) acc ts σ H R := ⟨y, rfl, h, k⟩
theorem s_rSindex {a b : Str} {i : Nat} {rest : List Nat} (h : Builtin.Str.occurrences a b 0 a.length 1 = i :: rest) (k : Q (.int (i : Nat)) H) : rSindex (.str a) [.str b] H Q := ⟨a, b, i, rest, rfl, rfl, h, k⟩
theorem s_rNotInS {c : Nat} {z : Str} (k : Q (.bl (!decide (c ∈ z.cps.toList))) H) : rNotInS (.str ⟨#[c]⟩) (.str z) H Q := ⟨c, z, rfl, rfl, k⟩
theorem s_rInS {c : Nat} {z : Str} (k : Q (.bl (decide (c ∈ z.cps.toList))) H) : rInS (.str ⟨#[c]⟩) (.str z) H Q := ⟨c, z, rfl, rfl, k⟩
theorem s_catA {K : PySem.W.Frag} {a b : Addr} {xs ys : List V} (h1 : SqT K H a xs) (h2 : SqT K H b ys) (hx : xs ≠ []) (hy : ys ≠ []) (hz : xs.length + ys.length ≤ sizeLine) (k : NewO (.tup (xs ++ ys)) H Q) : rCatA K (.ref a) (.ref b) H Q :=
  ⟨a, b, xs, ys, rfl, rfl, h1, h2, hz, fun e => absurd e hx, fun _ e => absurd e hy, fun _ _ => k⟩
theorem s_slT {K : PySem.W.Frag} {a : Addr} {xs : List V} {lo hi : Option Int} (n : Nat) (ys : List V) (h : SqT K H a xs) (hn : xs.length = n) (hw : ¬ (HT.sIx n 0 lo = 0 ∧ HT.sIx n n hi = n)) (e : cutV xs lo hi = ys) (k : NewO (.tup ys) H Q) : rSlT K (.ref a) lo hi H Q := ⟨a, xs, rfl, h, by rw [hn]; exact hw, by rw [e]; exact k⟩
theorem s_rInSeq {K : PySem.W.Frag} {p : Addr} {xs : List V} (h : SqL K H p xs ∨ SqT K H p xs) (f1 : flatV x = true) (f2 : xs.all flatV = true) (k : Q (.bl (inV x xs)) H) : rIn K false x (.ref p) H Q := ⟨p, xs, rfl, h, f1, f2, k⟩
theorem s_rNotInSeq {K : PySem.W.Frag} {p : Addr} {xs : List V} (h : SqL K H p xs ∨ SqT K H p xs) (f1 : flatV x = true) (f2 : xs.all flatV = true) (k : Q (.bl (!inV x xs)) H) : rIn K true x (.ref p) H Q := ⟨p, xs, rfl, h, f1, f2, k⟩
theorem s_rIsN (k : Q (.bl (decide (x = .non))) H) : rIsN x .non H Q := ⟨rfl, k⟩
theorem s_rNotN (k : Q (.bl (!decide (x = .non))) H) : rNotN x .non H Q := ⟨rfl, k⟩
end

/-! ### texts as their codes -/
def T (l : List Nat) : Str := ⟨l.toArray⟩
theorem T_len (l : List Nat) : (T l).length = l.length := by
  show (l.toArray).size = _
  simp
theorem T_app (a b : List Nat) : T a ++ T b = T (a ++ b) := by
  show (⟨a.toArray ++ b.toArray⟩ : Str) = ⟨(a ++ b).toArray⟩
  simp
theorem T_one (c : Nat) : (⟨#[c]⟩ : Str) = T [c] := rfl
theorem T_cps (l : List Nat) : (T l).cps.toList = l := by
  show l.toArray.toList = l
  simp
theorem T_inj {a b : List Nat} (h : T a = T b) : a = b := by
  have e := congrArg (fun s : Str => s.cps.toList) h
  rw [T_cps, T_cps] at e
  exact e
theorem at0 {α : Type} (c : α) (r : List α) : atI (c :: r) (0 : Int) = some c := atI_nat (xs := c :: r) (j := 0) rfl
theorem at_ex {α : Type} (l : List α) {z : Int} (h0 : 0 ≤ z) (h1 : z < l.length) : ∃ c, atI l z = some c := by
  obtain ⟨n, rfl⟩ : ∃ n : Nat, z = n := ⟨z.toNat, by omega⟩
  exact ⟨l[n]'(by omega), atI_nat (List.getElem?_eq_getElem (by omega))⟩
/-- an item at an open place: what is true of all items -/
theorem s_ixP {K : PySem.W.Frag} {p : Addr} {xs : List V} {z : Int} {H : Hp} {Q : VK} (P : V → Prop) (h : SqL K H p xs) (hz : 0 ≤ z ∧ z < xs.length) (hP : ∀ v ∈ xs, P v) (k : ∀ v, P v → Q v H) : rIxL K (.ref p) (.int z) H Q := by
  obtain ⟨v, hv⟩ := at_ex xs hz.1 hz.2
  obtain ⟨j, _, hj, _⟩ := atI_get hv
  exact ⟨p, xs, z, v, rfl, rfl, h, hv, k v (hP v (List.mem_of_getElem? hj))⟩
/-- an item at an open place: what is true of all items -/
theorem s_ixPT {K : PySem.W.Frag} {p : Addr} {xs : List V} {z : Int} {H : Hp} {Q : VK} (P : V → Prop) (h : SqT K H p xs) (hz : 0 ≤ z ∧ z < xs.length) (hP : ∀ v ∈ xs, P v) (k : ∀ v, P v → Q v H) : rIxT K (.ref p) (.int z) H Q := by
  obtain ⟨v, hv⟩ := at_ex xs hz.1 hz.2
  obtain ⟨j, _, hj, _⟩ := atI_get hv
  exact ⟨p, xs, z, v, rfl, rfl, h, hv, k v (hP v (List.mem_of_getElem? hj))⟩
theorem s_ixS {z : Str} {a : Int} {c : Nat} {H : Hp} {Q : VK} (hz : z.length ≤ sizeLine) (e : atI z.cps.toList a = some c) (k : Q (.str ⟨#[c]⟩) H) : rIxS (.str z) (.int a) H Q := ⟨z, a, c, rfl, rfl, hz, e, k⟩
theorem T_rjust (l : List Nat) (n c : Nat) : Txt.rjustF (T l) (n : Int) c = T (List.replicate (n - l.length) c ++ l) := by
  unfold Txt.rjustF
  rw [T_len]
  split
  · rw [show n - l.length = 0 from by omega]
    rfl
  · show (⟨Array.replicate _ c ++ l.toArray ++ Array.replicate 0 c⟩ : Str) = _
    rw [Int.toNat_natCast]
    unfold T
    congr 1
    rw [← List.toArray_replicate]
    simp
/-! ### new objects -/
theorem sz {n : Nat} (h : n ≤ 100000) : n ≤ sizeLine := Nat.le_trans h (by decide)
theorem szl {n : Nat} (h : n ≤ 100000) : n < sizeLine := Nat.lt_of_le_of_lt h (by decide)

theorem s_setN {H : Hp} {v : V} {p : Addr} {xs : List V} {a : Int} {m : Nat} {R : Hp → Prop} (h : H p = some (.lst xs)) (e : ixN xs.length a = some m) (ys : List V) (hy : xs.set m v = ys) (k : ∀ H', Fr p H H' → H' p = some (.lst ys) → R H') : rSetL (.ref p) (.int a) v H R :=
  ⟨p, xs, a, m, rfl, rfl, h, e, by rw [hy]; exact k _ Fr.upd upd_same⟩
/-! ### the drawing bag -/
structure Bag (H : Hp) (b c : Addr) : Prop where
  ex : ∃ (cells : List Int) (i : Nat) (big salt : Int), H b = some (.lst [.ref c, .int i, .int big, .int salt]) ∧ H c = some (.lst (cells.map V.int)) ∧ i ≤ cells.length ∧ 0 ≤ big ∧ 0 ≤ salt ∧ salt < 2147483647
theorem bag_ne {H : Hp} {b c : Addr} {xs : List V} {cells : List Int} (h1 : H b = some (.lst (.ref c :: xs))) (h2 : H c = some (.lst (cells.map V.int))) : c ≠ b := by
  intro e
  subst e
  rw [h1] at h2
  injection h2 with h2
  injection h2 with h2
  cases cells with
  | nil => cases h2
  | cons y ys => injection h2 with h2; cases h2
theorem Bag.getb {H : Hp} {b c : Addr} (B : Bag H b c) : ∃ xs, H b = some (.lst xs) := by
  obtain ⟨_, _, _, _, h, _⟩ := B.ex
  exact ⟨_, h⟩
theorem Bag.getc {H : Hp} {b c : Addr} (B : Bag H b c) : ∃ xs, H c = some (.lst xs) := by
  obtain ⟨_, _, _, _, _, h, _⟩ := B.ex
  exact ⟨_, h⟩
theorem Bag.neb {H : Hp} {b c p : Addr} (B : Bag H b c) (h : H p = none) : p ≠ b := by
  obtain ⟨_, q⟩ := B.getb
  exact (ne_of_none q h).symm
theorem Bag.nec {H : Hp} {b c p : Addr} (B : Bag H b c) (h : H p = none) : p ≠ c := by
  obtain ⟨_, q⟩ := B.getc
  exact (ne_of_none q h).symm
theorem neb_of {H : Hp} {b c p : Addr} (h : H p = none) (B : Bag H b c) : p ≠ b := B.neb h
theorem nec_of {H : Hp} {b c p : Addr} (h : H p = none) (B : Bag H b c) : p ≠ c := B.nec h
theorem Bag.cb {H : Hp} {b c : Addr} (B : Bag H b c) : c ≠ b := by
  obtain ⟨_, _, _, _, h1, h2, _⟩ := B.ex
  exact bag_ne h1 h2
theorem Bag.ext {H H' : Hp} {b c : Addr} (B : Bag H b c) (e : Ex H H') : Bag H' b c := by
  obtain ⟨cells, i, big, salt, h1, h2, r⟩ := B.ex
  exact ⟨cells, i, big, salt, e _ _ h1, e _ _ h2, r⟩
theorem Bag.frs {H H' : Hp} {b c D : Addr} (B : Bag H b c) (n1 : D ≠ b) (n2 : D ≠ c) (e : Fr D H H') : Bag H' b c := by
  obtain ⟨cells, i, big, salt, h1, h2, r⟩ := B.ex
  exact ⟨cells, i, big, salt, e _ _ n1.symm h1, e _ _ n2.symm h2, r⟩
theorem Bag.mk' {H : Hp} {b c : Addr} {cells : List Int} {i : Nat} {big salt : Int} (h1 : H b = some (HO.lst [.ref c, .int i, .int big, .int salt])) (h2 : H c = some (HO.lst (cells.map V.int))) (h3 : i ≤ cells.length) (h4 : 0 ≤ big) (h5 : 0 ≤ salt ∧ salt < 2147483647) : Bag H b c :=
  ⟨cells, i, big, salt, h1, h2, h3, h4, h5.1, h5.2⟩
def spPull : Sp := fun vs H Q _ => ∃ (b c : Addr) (n : Int), vs = [.ref b, .int n] ∧ Bag H b c ∧ 0 < n ∧ n < 2 ^ 200 ∧ ∀ z H', 0 ≤ z → z < n → Bag H' b c → Fr b H H' → Q (.int z) H'
def spBag (K : PySem.W.Frag) : Sp := fun vs H Q _ => ∃ (a : Addr) (ns : List Int), vs = [.ref a] ∧ SqL K H a (ns.map V.int) ∧ ns.length ≤ 63 ∧ ∀ b c H', H b = none → H c = none → Ex H H' → Bag H' b c → Q (.ref b) H'
theorem use_pull {H : Hp} {b c : Addr} {n : Int} {Q : VK} {E : XK} (B : Bag H b c) (h : 0 < n ∧ n < 2 ^ 200) (k : ∀ z H', 0 ≤ z → z < n → Bag H' b c → Fr b H H' → Q (.int z) H') : spPull ([.ref b, .int n] ++ []) H Q E :=
  ⟨b, c, n, rfl, B, h.1, h.2, k⟩

/-! ### what cannot change: the heap without the addresses that may -/
def wos (M : List Addr) (H : Hp) : Hp := fun a => if a ∈ M then none else H a
theorem wos_some {M : List Addr} {a : Addr} {H : Hp} {o : HO} (h : wos M H a = some o) : a ∉ M ∧ H a = some o := by
  unfold wos at h
  split at h
  · cases h
  · exact ⟨by assumption, h⟩
theorem wos_mk {M : List Addr} {a : Addr} {H : Hp} {o : HO} (n : a ∉ M) (h : H a = some o) : wos M H a = some o := by
  unfold wos
  rw [if_neg n]
  exact h
theorem wos_ex {M : List Addr} {H : Hp} : Ex (wos M H) H := fun _ _ h => (wos_some h).2
theorem wos_nil {H : Hp} : Ex H (wos [] H) := fun _ _ h => wos_mk (by simp) h
theorem Ex.wos {M : List Addr} {H H' : Hp} (e : Ex H H') : Ex (Z.wos M H) (Z.wos M H') := fun a o h => wos_mk (wos_some h).1 (e a o (wos_some h).2)
theorem Fr.wos {M : List Addr} {b : Addr} {H H' : Hp} (e : Fr b H H') (hb : b ∈ M) : Ex (Z.wos M H) (Z.wos M H') := fun a o h =>
  wos_mk (wos_some h).1 (e a o (fun q => (wos_some h).1 (by rw [q]; exact hb)) (wos_some h).2)
/-- an address more that may change: it is new -/
theorem wos_more {M : List Addr} {D : Addr} {H H' : Hp} (e : Ex H H') (n : H D = none) : Ex (wos M H) (wos (D :: M) H') := fun a o h => by
  have h1 := wos_some h
  refine wos_mk ?_ (e _ _ h1.2)
  intro q
  rcases List.mem_cons.mp q with q | q
  · rw [q, n] at h1
    cases h1.2
  · exact h1.1 q
/-- one that has come to rest -/
theorem wos_less {M : List Addr} {D : Addr} {H : Hp} : Ex (wos (D :: M) H) (wos M H) := fun _ _ h => wos_mk (fun q => (wos_some h).1 (List.mem_cons_of_mem _ q)) (wos_some h).2
theorem wos_new {M : List Addr} {p : Addr} {H H' : Hp} {o : HO} (n : H p = none) (hM : ∀ a ∈ M, H a ≠ none) (h : H' p = some o) : Z.wos M H' p = some o := wos_mk (fun q => hM _ q n) h

theorem cut63 {xs : List V} (h : xs.length ≤ 63) : cutV xs none (some 63) = xs := by
  unfold cutV
  have e : HT.sIx xs.length xs.length (some 63) = xs.length := by
    rw [show (63 : Int) = ((63 : Nat) : Int) from rfl, HT.sIx_nat]
    omega
  rw [HT.sIx_none, e]
  simp
theorem map_int_get {ns : List Int} {i : Nat} {x : V} (h : (ns.map V.int)[i]? = some x) : ∃ y, x = V.int y := by
  rw [List.getElem?_map] at h
  cases e : ns[i]? with
  | none => rw [e] at h; cases h
  | some y => rw [e] at h; exact ⟨y, (Option.some.inj h).symm⟩
/-! ### comprehensions -/
def LcW (J : It) (g : TG) (tt : TT) (te : TE) (vs : List Nat) (σ : L2.St) (H1 : Hp) (Q : VK) : Prop := ∀ D, H1 D = none → ∃ W : Nat → Nat → Hp → Prop, (∃ m, W 0 m (upd H1 D (.lst []))) ∧ ∀ i m H, W i m H →
  (J.stop i H ∧ Q (.ref D) H) ∨ (J.go i H ∧ ∃ Nx : Hp → Prop, (∀ H', Nx H' → ∃ m', m' < m ∧ W (i + 1) m' H') ∧ ∀ x H', J.yld i H x H' → g x (wipe σ vs) H' fun σ2 H2 => wipe σ2 vs = wipe σ vs ∧ tt σ2 H2 fun b H3 =>
    if b = true then te σ2 H3 fun y H4 => ∃ acc, H4 D = some (.lst acc) ∧ acc.length < sizeLine ∧ Nx (upd H4 D (.lst (acc ++ [y]))) else Nx H3)
theorem s_lc {wi : TI} {g : TG} {tt : TT} {te : TE} {vs : List Nat} {σ : L2.St} {H : Hp} {Q : VK} (k : wi σ H fun J H1 => LcW J g tt te vs σ H1 Q) : tLc wi g tt te vs σ H Q := k
theorem s_yes {σ : L2.St} {H : Hp} {R : Bool → Hp → Prop} (k : R true H) : tYes σ H R := k
/-- between two turns: D holds what has been made -/
def Cv (Iv : Addr → Hp → Prop) (R : Addr → Nat → List V → Hp → Prop) (D : Addr) (i : Nat) (H : Hp) : Prop := ∃ l, Iv D H ∧ H D = some (.lst l) ∧ l.length ≤ i ∧ R D i l H
theorem c_put {Iv : Addr → Hp → Prop} {R : Addr → Nat → List V → Hp → Prop} {D : Addr} {i : Nat} {H4 : Hp} {l : List V} {y : V} (h : H4 D = some (.lst l)) (hz : l.length ≤ i ∧ i < 50000) (k : ∀ H5, Fr D H4 H5 → H5 D = some (.lst (l ++ [y])) → Iv D H5 ∧ R D (i + 1) (l ++ [y]) H5) :
    ∃ acc, H4 D = some (.lst acc) ∧ acc.length < sizeLine ∧ Cv Iv R D (i + 1) (upd H4 D (.lst (acc ++ [y]))) := by
  obtain ⟨a, r⟩ := k _ Fr.upd upd_same
  exact ⟨l, h, szl (by omega), l ++ [y], a, upd_same, by rw [List.length_append, List.length_singleton]; omega, r⟩
theorem c_skip {Iv : Addr → Hp → Prop} {R : Addr → Nat → List V → Hp → Prop} {D : Addr} {i : Nat} {H4 : Hp} {l : List V} (h : H4 D = some (.lst l)) (hz : l.length ≤ i) (a : Iv D H4) (r : R D (i + 1) l H4) : Cv Iv R D (i + 1) H4 := ⟨l, a, h, by omega, r⟩
/-- over any walk: the new list D is held apart; R speaks of what has been made -/
theorem c_it {J : It} {n : Nat} {G : Hp → Prop} {Y : Nat → Hp → V → Hp → Prop} {g : TG} {tt : TT} {te : TE} {vs : List Nat} {σ : L2.St} {H : Hp} {Q : VK} (w : Walk J n G Y) (Iv : Addr → Hp → Prop) (R : Addr → Nat → List V → Hp → Prop)
    (h0 : ∀ D H', H D = none → Ex H H' → H' D = some (.lst []) → Iv D H' ∧ R D 0 [] H') (hG : ∀ D H', Iv D H' → G H')
    (hs : ∀ D i l H1 x H1', i < n → Iv D H1 → H1 D = some (.lst l) → l.length ≤ i → R D i l H1 → Y i H1 x H1' → g x (wipe σ vs) H1' fun σ2 H2 => wipe σ2 vs = wipe σ vs ∧ tt σ2 H2 fun b H3 =>
      if b = true then te σ2 H3 fun y H4 => ∃ acc, H4 D = some (.lst acc) ∧ acc.length < sizeLine ∧ Cv Iv R D (i + 1) (upd H4 D (.lst (acc ++ [y]))) else Cv Iv R D (i + 1) H3)
    (hd : ∀ D l H', Iv D H' → H' D = some (.lst l) → l.length ≤ n → R D n l H' → Q (.ref D) H') : LcW J g tt te vs σ H Q := by
  intro D hD
  refine lc_it w (Cv Iv R D) ?_ (fun i H' _ p => ?_) (fun i x H1 H1' hi p y => ?_) (fun H' p => ?_)
  · obtain ⟨a, b⟩ := h0 D _ hD (Ex.new hD) upd_same
    exact ⟨[], a, upd_same, Nat.le_refl _, b⟩
  · obtain ⟨l, a, _⟩ := p
    exact hG _ _ a
  · obtain ⟨l, a, hl, hz, r⟩ := p
    exact hs D i l H1 x H1' hi a hl hz r y
  · obtain ⟨l, a, hl, hz, r⟩ := p
    exact hd D l H' a hl hz r
theorem c_range {n : Int} {g : TG} {tt : TT} {te : TE} {vs : List Nat} {σ : L2.St} {H : Hp} {Q : VK} (b : -(2 ^ 62) ≤ n ∧ n < 2 ^ 62) (Iv : Addr → Hp → Prop) (R : Addr → Nat → List V → Hp → Prop)
    (h0 : ∀ D H', H D = none → Ex H H' → H' D = some (.lst []) → Iv D H' ∧ R D 0 [] H')
    (hs : ∀ D (i : Nat) l H1, (i : Int) < n → Iv D H1 → H1 D = some (.lst l) → l.length ≤ i → R D i l H1 → g (.int (i : Int)) (wipe σ vs) H1 fun σ2 H2 => wipe σ2 vs = wipe σ vs ∧ tt σ2 H2 fun b H3 =>
      if b = true then te σ2 H3 fun y H4 => ∃ acc, H4 D = some (.lst acc) ∧ acc.length < sizeLine ∧ Cv Iv R D (i + 1) (upd H4 D (.lst (acc ++ [y]))) else Cv Iv R D (i + 1) H3)
    (hd : ∀ D l H', Iv D H' → H' D = some (.lst l) → l.length ≤ n.toNat → R D n.toNat l H' → Q (.ref D) H') :
    ∃ j : Int, [V.int n] = [.int j] ∧ -(2 ^ 62) ≤ j ∧ j < 2 ^ 62 ∧ LcW (Itr 0 j.toNat) g tt te vs σ H Q :=
  ⟨n, rfl, b.1, b.2, c_it walk_range Iv R h0 (fun _ _ _ => trivial) (fun D i l H1 x H1' hi a hl hz r y => by
    obtain ⟨e, y⟩ := y
    subst e y
    have e0 : (0 : Int) + (i : Int) = (i : Int) := Int.zero_add _
    dsimp only
    rw [e0]
    exact hs D i l _ (by omega) a hl hz r) hd⟩
theorem c_list {K : PySem.W.Frag} {a : Addr} {g : TG} {tt : TT} {te : TE} {vs : List Nat} {σ : L2.St} {H : Hp} {Q : VK} (xs : List V) (h : SqL K H a xs) (Iv : Addr → Hp → Prop) (R : Addr → Nat → List V → Hp → Prop)
    (h0 : ∀ D H', H D = none → Ex H H' → H' D = some (.lst []) → Iv D H' ∧ R D 0 [] H') (hG : ∀ D H', Iv D H' → SqL K H' a xs)
    (hs : ∀ D i l H1 x, xs[i]? = some x → Iv D H1 → H1 D = some (.lst l) → l.length ≤ i → R D i l H1 → g x (wipe σ vs) H1 fun σ2 H2 => wipe σ2 vs = wipe σ vs ∧ tt σ2 H2 fun b H3 =>
      if b = true then te σ2 H3 fun y H4 => ∃ acc, H4 D = some (.lst acc) ∧ acc.length < sizeLine ∧ Cv Iv R D (i + 1) (upd H4 D (.lst (acc ++ [y]))) else Cv Iv R D (i + 1) H3)
    (hd : ∀ D l H', Iv D H' → H' D = some (.lst l) → l.length ≤ xs.length → R D xs.length l H' → Q (.ref D) H') :
    ∃ a', V.ref a = .ref a' ∧ (∃ xs, SqL K H a' xs) ∧ LcW (Itl K a') g tt te vs σ H Q :=
  ⟨a, rfl, ⟨xs, h⟩, c_it walk_list Iv R h0 hG (fun D i l H1 x H1' hi a hl hz r y => by
    obtain ⟨e, y⟩ := y
    subst e
    exact hs D i l _ x y a hl hz r) hd⟩
theorem c_tup {K : PySem.W.Frag} {a : Addr} {g : TG} {tt : TT} {te : TE} {vs : List Nat} {σ : L2.St} {H : Hp} {Q : VK} (xs : List V) (h : SqT K H a xs) (Iv : Addr → Hp → Prop) (R : Addr → Nat → List V → Hp → Prop)
    (h0 : ∀ D H', H D = none → Ex H H' → H' D = some (.lst []) → Iv D H' ∧ R D 0 [] H') (hG : ∀ D H', Iv D H' → SqT K H' a xs)
    (hs : ∀ D i l H1 x, xs[i]? = some x → Iv D H1 → H1 D = some (.lst l) → l.length ≤ i → R D i l H1 → g x (wipe σ vs) H1 fun σ2 H2 => wipe σ2 vs = wipe σ vs ∧ tt σ2 H2 fun b H3 =>
      if b = true then te σ2 H3 fun y H4 => ∃ acc, H4 D = some (.lst acc) ∧ acc.length < sizeLine ∧ Cv Iv R D (i + 1) (upd H4 D (.lst (acc ++ [y]))) else Cv Iv R D (i + 1) H3)
    (hd : ∀ D l H', Iv D H' → H' D = some (.lst l) → l.length ≤ xs.length → R D xs.length l H' → Q (.ref D) H') :
    ∃ a', V.ref a = .ref a' ∧ (∃ xs, SqT K H a' xs) ∧ LcW (Itt K a') g tt te vs σ H Q :=
  ⟨a, rfl, ⟨xs, h⟩, c_it walk_tup Iv R h0 hG (fun D i l H1 x H1' hi a hl hz r y => by
    obtain ⟨e, y⟩ := y
    subst e
    exact hs D i l _ x y a hl hz r) hd⟩

/-- the law: a list of at most 63 ints is handed in, True comes out -/
def spLaw (K : PySem.W.Frag) : Sp := fun vs H Q _ => ∃ (a : Addr) (ns : List Int), vs = [.ref a] ∧ SqL K H a (ns.map V.int) ∧ ns.length ≤ 63 ∧ ∀ H', Q (.bl true) H'
theorem exm_self {K : PySem.W.Frag} {S : Addr} (h1 : PySem.W.subIn K (.ref S) (.type "BaseException") = some true) (h2 : PySem.W.isClsIn K S = true) (h3 : PySem.W.typeIn K (.ref S) = some (.type "type")) (h4 : PySem.W.subIn K (.ref S) (.ref S) = some true) :
    PySem.W.exmOne K (.ref S) (.ref S) = some true := by
  have e1 : (PySem.W.subIn K (.ref S) (.type "BaseException") == some true) = true := by rw [h1] <;> rfl
  have e2 : ((PySem.W.clsIn K S).isSome && PySem.W.typeIn K (.ref S) == some (.type "type")) = true := by
    rw [h3]
    have e3 : (PySem.W.clsIn K S).isSome = true := h2
    rw [e3] <;> rfl
  show (if (PySem.W.subIn K (.ref S) (.type "BaseException") == some true) = true then (if ((PySem.W.clsIn K S).isSome && PySem.W.typeIn K (.ref S) == some (.type "type")) = true then PySem.W.subIn K (.ref S) (.ref S) else none) else none) = some true
  rw [if_pos e1, if_pos e2, h4]
theorem Str_len_app (a b : Str) : (a ++ b).length = a.length + b.length := by
  show (a.cps ++ b.cps).size = _
  rw [Array.size_append]
  rfl
theorem s_callS {sp : Sp} {E : L2.St → XK} {tr : TA} {σ : L2.St} {H : Hp} {Q : VK} (k : tr σ H fun vs H1 => sp vs H1 Q (E σ)) : tCallS sp E tr σ H Q := k
/-- a whole number within bounds -/
def R (lo hi n : Int) : Prop := lo ≤ n ∧ n ≤ hi
def IntIn (lo hi : Int) (v : V) : Prop := ∃ n, v = .int n ∧ R lo hi n
theorem intIn_cons {lo hi n : Int} {xs : List V} (h : R lo hi n) (k : ∀ v ∈ xs, IntIn lo hi v) : ∀ v ∈ V.int n :: xs, IntIn lo hi v := fun v hv => by
  rcases List.mem_cons.mp hv with e | hv
  · exact ⟨n, e, h⟩
  · exact k v hv
theorem intIn_nil {lo hi : Int} : ∀ v ∈ ([] : List V), IntIn lo hi v := fun v hv => by cases hv
def spInt (lo hi : Int) : Sp := fun vs H Q _ => ∃ b c : Addr, vs = [.ref b] ∧ Bag H b c ∧ ∀ z H', lo ≤ z → z ≤ hi → Bag H' b c → Fr b H H' → Q (.int z) H'
theorem use_int {lo hi : Int} {H : Hp} {b c : Addr} {Q : VK} {E : XK} (B : Bag H b c) (k : ∀ z H', lo ≤ z → z ≤ hi → Bag H' b c → Fr b H H' → Q (.int z) H') : spInt lo hi ([.ref b] ++ []) H Q E := ⟨b, c, rfl, B, k⟩
/-! ### kinds -/
theorem kb_int_tuple : kitB "int" "tuple" = some false := by decide +kernel
theorem kb_int_list : kitB "int" "list" = some false := by decide +kernel
theorem kb_int_bool : kitB "int" "bool" = some false := by decide +kernel
theorem kb_int_int : kitB "int" "int" = some true := by decide +kernel
theorem kb_str_tuple : kitB "str" "tuple" = some false := by decide +kernel
theorem kb_str_list : kitB "str" "list" = some false := by decide +kernel
theorem kb_str_bool : kitB "str" "bool" = some false := by decide +kernel
theorem kb_str_int : kitB "str" "int" = some false := by decide +kernel
theorem kb_bool_tuple : kitB "bool" "tuple" = some false := by decide +kernel
theorem kb_bool_list : kitB "bool" "list" = some false := by decide +kernel
theorem kb_bool_bool : kitB "bool" "bool" = some true := by decide +kernel
theorem kb_bool_int : kitB "bool" "int" = some true := by decide +kernel
theorem kb_NoneType_tuple : kitB "NoneType" "tuple" = some false := by decide +kernel
theorem kb_NoneType_list : kitB "NoneType" "list" = some false := by decide +kernel
theorem kb_NoneType_bool : kitB "NoneType" "bool" = some false := by decide +kernel
theorem kb_NoneType_int : kitB "NoneType" "int" = some false := by decide +kernel
theorem kb_tuple_tuple : kitB "tuple" "tuple" = some true := by decide +kernel
theorem kb_tuple_list : kitB "tuple" "list" = some false := by decide +kernel
theorem kb_tuple_bool : kitB "tuple" "bool" = some false := by decide +kernel
theorem kb_tuple_int : kitB "tuple" "int" = some false := by decide +kernel
theorem kb_list_tuple : kitB "list" "tuple" = some false := by decide +kernel
theorem kb_list_list : kitB "list" "list" = some true := by decide +kernel
theorem kb_list_bool : kitB "list" "bool" = some false := by decide +kernel
theorem kb_list_int : kitB "list" "int" = some false := by decide +kernel

section
variable {K : PySem.W.Frag} {H H' : Hp} {Q : VK} {x v : V}
theorem ty_sqL {a : Addr} {xs : List V} (h : SqL K H a xs) : TyX K H (.ref a) (.type "list") := by
  rcases h with (h | ⟨o, h⟩) | ⟨o, its, n, h, c, _⟩
  · exact .base (.lst h)
  · exact .base (.frz h)
  · exact .kList h c
theorem ty_sqT {a : Addr} {xs : List V} (h : SqT K H a xs) : TyX K H (.ref a) (.type "tuple") := by
  rcases h with (h | ⟨o, h⟩) | ⟨o, its, n, h, c, _⟩
  · exact .base (.tup h)
  · exact .fTuple h
  · exact .kTuple h c
theorem s_isi {n m : String} {b : Bool} (ty : TyX K H x (.type n)) (e : kitB n m = some b) (k : Q (.bl b) H) : rIsi K [x, .ty m] H Q := ⟨x, .ty m, .type n, .type m, b, rfl, .ty m, ty, kit_ty e, k⟩
theorem s_isiTL {n : String} {b c : Bool} {tp : Addr} (h : H tp = some (.tup [.ty "tuple", .ty "list"])) (ty : TyX K H x (.type n)) (e : kitB n "tuple" = some b) (e' : kitB n "list" = some c) (k : Q (.bl (b || c)) H) : rIsiT K [x, .ref tp] H Q := by
  refine ⟨x, tp, _, .type n, [.type "tuple", .type "list"], _, rfl, h, .cons (.ty _) (.cons (.ty _) .nil), ty, ?_, k⟩
  cases b with
  | true => exact kitAny_cons (kit_ty e) (fun z => by cases z) (fun _ => rfl)
  | false =>
    refine kitAny_cons (kit_ty e) (fun _ => ?_) (fun z => by cases z)
    cases c with
    | true => exact kitAny_cons (kit_ty e') (fun z => by cases z) (fun _ => rfl)
    | false => exact kitAny_cons (kit_ty e') (fun _ => kitAny_nil) (fun z => by cases z)
end

/-! ### data -/
mutual
theorem dp_ex {K : PySem.W.Frag} {H H' : Hp} (e : Ex H H') : ∀ {v : V} {d : PyData}, Dp K H v d → Dp K H' v d
  | _, _, .non => .non
  | _, _, .bl b => .bl b
  | _, _, .int i => .int i
  | _, _, .str x => .str x
  | _, _, .lst h r => .lst (Ex.sqL e h) (dpAll_ex e r)
  | _, _, .tup h r => .tup (Ex.sqT e h) (dpAll_ex e r)
theorem dpAll_ex {K : PySem.W.Frag} {H H' : Hp} (e : Ex H H') : ∀ {vs : List V} {ds : List PyData}, DpAll K H vs ds → DpAll K H' vs ds
  | _, _, .nil => .nil
  | _, _, .cons h r => .cons (dp_ex e h) (dpAll_ex e r)
end
theorem dpAll_len {K : PySem.W.Frag} {H : Hp} : ∀ {vs : List V} {ds : List PyData}, DpAll K H vs ds → vs.length = ds.length
  | _, _, .nil => rfl
  | _, _, .cons _ r => congrArg Nat.succ (dpAll_len r)
theorem dpAll_get {K : PySem.W.Frag} {H : Hp} : ∀ {vs : List V} {ds : List PyData} {i : Nat} {v : V} {d : PyData}, DpAll K H vs ds → vs[i]? = some v → ds[i]? = some d → Dp K H v d
  | _, _, _, _, _, .nil, h, _ => by cases h
  | _, _, 0, _, _, .cons h _, e1, e2 => by
    cases e1
    cases e2
    exact h
  | _, _, i + 1, _, _, .cons _ r, e1, e2 => dpAll_get (i := i) r (by simpa using e1) (by simpa using e2)
/-- data of a bounded depth, its sequences bounded -/
def DOk : Nat → PyData → Prop
  | 0, _ => False
  | n + 1, .list ds => ds.length ≤ 1000 ∧ ∀ d ∈ ds, DOk n d
  | n + 1, .tuple ds => ds.length ≤ 1000 ∧ ∀ d ∈ ds, DOk n d
  | _ + 1, .dict _ => False
  | _ + 1, _ => True
def spLike (K : PySem.W.Frag) (n : Nat) : Sp := fun vs H Q _ => ∃ x y d, vs = [x, y] ∧ Dp K H x d ∧ Dp K H y d ∧ DOk n d ∧ ∀ H', Ex H H' → Q (.bl true) H'
theorem fnOk_no {P : Program} {w : World} {K : PySem.W.Frag} {mg : Str → Option Value} {base : Heap} {CX : CXT} {k : Nat} {f : Addr} {fd : FuncData} {ps : List Str} {sp : Sp} (h : ∀ vs H Q E, sp vs H Q E → False) : FnOk P w K mg base CX k f fd ps sp :=
  ⟨fun vs H Q E q => (h _ _ _ _ q).elim, fun _ _ _ _ _ _ _ _ _ _ _ _ _ q => (h _ _ _ _ q).elim⟩
theorem like_no {K : PySem.W.Frag} : ∀ vs H Q E, spLike K 0 vs H Q E → False := fun vs H Q E h => by
  obtain ⟨x, y, d, _, _, _, ok, _⟩ := h
  exact ok
theorem ite_tE {c : Bool} {A B : Prop} (h : c = true) (k : A) : if c = true then A else B := by rw [if_pos h]; exact k
theorem ite_fE {c : Bool} {A B : Prop} (h : c = false) (k : B) : if c = true then A else B := by rw [h]; exact ite_f k
theorem ev_blT {c : Bool} {Q : VK} {H : Hp} (h : c = true) (k : Q (.bl true) H) : Q (.bl c) H := by rw [h]; exact k
end Z

set_option Elab.async false
set_option linter.all false
set_option maxRecDepth 100000
namespace Z
open PySem L2
/-! a display with a star -/
def tStarT (K : PySem.W.Frag) (te : TE) (tr : TA) : TA := fun σ H Q => te σ H fun x H1 => ∃ a us, x = .ref a ∧ SqT K H1 a us ∧ tr σ H1 fun vs H2 => Q (us ++ vs) H2
theorem pa_starT {X : Cx} {e : Expr} {es : List Expr} {te : TE} {t : TA} {p : Pos} (he : PE X e te) (hr : PA X es t) (hs : starEach (.Starred e p :: es) X.env = (true, eval e X.env) :: starEach es X.env := by rfl) : PA X (.Starred e p :: es) (tStarT X.K te t) := by
  refine ⟨fun pos pins s σ H Q I h => ?_⟩
  refine PySem.W.items_star (thn (he.run pins s σ H _ I h) fun u s1 ⟨x, H1, I1, r1, a, us, ex, ha, q⟩ => ?_) hs
  subst ex
  obtain rfl : u = Value.ref a := r1
  exact star_tup I1 ha fun ws s2 I2 rw' => thn (hr.run pos pins s2 σ H1 _ I2 q) fun zs s3 ⟨vs, H2, I3, r2, q2⟩ => ⟨us ++ vs, H2, I3, rw'.append r2, q2⟩
theorem s_star {K : PySem.W.Frag} {te : TE} {tr : TA} {σ : L2.St} {H : Hp} {Q : List V → Hp → Prop} (h : te σ H fun x H1 => ∃ a us, x = .ref a ∧ SqT K H1 a us ∧ tr σ H1 fun vs H2 => Q (us ++ vs) H2) : tStarT K te tr σ H Q := h
/-! a target of several names, its library part named -/
theorem pg_tupK {X : Cx} {K : PySem.W.Frag} {es : List Expr} {k : Nat} {t : TGs} (n : Nat) {pos : Pos} (hK : X.K = K) (hc : X.calm = true) (h : PGs X es t)
    (hn : (assignEach es X.env).length = n := by rfl) (hst : (assignEach es X.env).findIdx? (·.1) = none := by rfl) : PG X (.Tuple es k pos) (gTup K n t) := by
  subst hK
  exact pg_tup hc h hn hst
/-! t > u, tuples of ints -/
def rGtT2 (K : PySem.W.Frag) : R2 := fun x y H Q => ∃ (a b : Addr) (p q r s : Int), x = .ref a ∧ y = .ref b ∧ SqT K H a [.int p, .int q] ∧ SqT K H b [.int r, .int s] ∧ Q (.bl (decide (r < p ∨ (r = p ∧ s < q)))) H
theorem op_gtT2 {X : Cx} (hu : X.A.units < cLine) : OpR X (compareOp .Gt) (rGtT2 X.K) := by
  intro pins st σ H x y v u Q I rx ry h
  obtain ⟨a, b, p, q, r, s, rfl, rfl, ha, hb, k⟩ := h
  obtain rfl : v = Value.ref a := rx
  obtain rfl : u = Value.ref b := ry
  obtain ⟨its, r1, p1, _⟩ := I.tuple ha
  obtain ⟨jts, r2, p2, _⟩ := I.tuple hb
  cases r1 with
  | cons h1 r1 =>
    cases r1 with
    | cons h2 r1 =>
      cases r1
      cases r2 with
      | cons h3 r2 =>
        cases r2 with
        | cons h4 r2 =>
          cases r2
          obtain ⟨t1, rfl⟩ := h1
          obtain ⟨t2, rfl⟩ := h2
          obtain ⟨t3, rfl⟩ := h3
          obtain ⟨t4, rfl⟩ := h4
          have zz : ∀ m n : Int, (m == n) = decide (m = n) := fun m n => by
            by_cases w : m = n
            · rw [decide_eq_true w]
              exact beq_iff_eq.mpr w
            · rw [decide_eq_false w]
              exact beq_eq_false_iff_ne.mpr w
          have G := Ob.RcOp.tuples_gt (A := X.A) (s := st) (e := fun j => if j = 0 then decide (p = r) else decide (q = s)) (r := fun j => if j = 0 then decide (r < p) else decide (s < q)) p1 p2 hu
            (fun j h1 h2 => by
              have : j = 0 ∨ j = 1 := by
                simp at h1
                omega
              rcases this with rfl | rfl
              · rw [if_pos rfl, ← zz]
                exact SeqAt.EqAt.int_int _ _ _ _
              · rw [if_neg (by decide), ← zz]
                exact SeqAt.EqAt.int_int _ _ _ _)
            (fun j h1 h2 _ => by
              have : j = 0 ∨ j = 1 := by
                simp at h1
                omega
              rcases this with rfl | rfl
              · rw [if_pos rfl]
                exact Ob.RcOp.gt_int _ _ _ _
              · rw [if_neg (by decide)]
                exact Ob.RcOp.gt_int _ _ _ _)
          have en : Ob.lexAt (fun j => if j = 0 then decide (p = r) else decide (q = s)) (fun j => if j = 0 then decide (r < p) else decide (s < q)) (decide ((2 : Nat) > 2)) 0 2 = decide (r < p ∨ (r = p ∧ s < q)) := by
            rw [Ob.lexAt_succ, Ob.lexAt_succ, Ob.lexAt_zero]
            by_cases e1 : p = r
            · subst e1
              by_cases e2 : q = s
              · subst e2
                simp
              · simp [e2]
            · have : (r < p ∨ (r = p ∧ s < q)) ↔ r < p := ⟨fun h => h.elim id fun h => absurd h.1.symm e1, .inl⟩
              simp [e1, this]
          have G' : wpAny (model X.prog X.w) X.A (compareOp .Gt (.ref a) (.ref b)) (EP X pins σ Q) X.xe st := G X.prog X.w X.xe (EP X pins σ Q) ⟨.bl _, H, I, rfl, by
            have k' := k
            rw [← en] at k'
            exact k'⟩
          exact G'
theorem s_gtT2 {K : PySem.W.Frag} {H : Hp} {Q : VK} {a b : Addr} {p q r s : Int} (ha : SqT K H a [.int p, .int q]) (hb : SqT K H b [.int r, .int s]) (k : Q (.bl (decide (r < p ∨ (r = p ∧ s < q)))) H) : rGtT2 K (.ref a) (.ref b) H Q := ⟨a, b, p, q, r, s, rfl, rfl, ha, hb, k⟩
/-! set of a list of ints -/
section
open PySem.Spec PyProof.Rows
variable {P : Program} {w : World} {A : Around}
theorem set_upd {R : Result → Shared → Prop} {J : Addr} {fp wr : List Addr} {G : Array GenState → Array GenState → Prop} {n : Nat} {T : Nat → Value → Prop} {Z : Nat → Shared → Prop}
    (W : WalksS P w A.in1 J fp wr G n T Z) (a : Addr) (ha : a ∉ fp) (ns : List Int) (en : ns.length = n) (ht : ∀ i v, T i v → ∃ t, v = .int (ns.getD i 0) t) (room : n + 1 < scanBound) :
    ∀ (k i m : Nat) (s : Shared) (S : Int → Bool), n - i = k → i ≤ n → Z i s → SetR w s.heap a S m → m ≤ i → (∀ x, S x = true ↔ x ∈ ns.take i) →
      (∀ s' S' m', Moved (a :: wr) G s s' → SetR w s'.heap a S' m' → m' ≤ n → (∀ x, S' x = true ↔ x ∈ ns) → R (.ok (.ret .none)) s') →
      codeAny (model P w) A (.builtin "set.update.loop" ⟨[.ref a, .ref J], []⟩) R s
  | 0, i, m, s, S, hk, hi, hz, hS, hm, hx, hR => by
    obtain rfl : i = n := by omega
    refine codeAny_builtin PyProof.Rows.F.entry_set_update_loop ?_
    rw [PySem.Around.under_plainId PyProof.Rows.F.plain_set_update_loop _]
    refine wpAny_bind (m := pyNext (.ref J)) (W.done s _ _ hz fun s' mv => ?_)
    refine wpAny_pure (hR s' S m (mv.mono fun b hb => List.mem_cons_of_mem _ hb) (hS.at fun o e => mv.heap a _ (fun z => ha (W.sub _ z)) e) hm fun x => ?_)
    rw [hx, ← en, List.take_length]
  | k + 1, i, m, s, S, hk, hi, hz, hS, hm, hx, hR => by
    have lt : i < n := by omega
    have sb : ∀ b ∈ wr, b ∈ a :: wr := fun b hb => List.mem_cons_of_mem _ hb
    refine codeAny_builtin PyProof.Rows.F.entry_set_update_loop ?_
    rw [PySem.Around.under_plainId PyProof.Rows.F.plain_set_update_loop _]
    refine wpAny_bind (m := pyNext (.ref J)) (W.item i s _ _ lt hz fun v s' hv hz' mv => ?_)
    obtain ⟨t, rfl⟩ := ht i v hv
    have hS' : SetR w s'.heap a S m := hS.at fun o e => mv.heap a _ (fun z => ha (W.sub _ z)) e
    show wpAny _ A.in1 (holding [Value.int (ns.getD i 0) t] (setAdd a (.int (ns.getD i 0) t)) >>= _) _ _ s'
    refine wpAny_bind (wpAny_holding ?_)
    unfold setAdd
    refine wpAny_holding (wpAny_bind ((intKind P w).pyHash (intKind_is P w (ns.getD i 0) t) ?_))
    refine setR_add_hashed (s := { s' with toks := s'.toks + 1 }) hS' (by omega) fun h' hb hS2 => ?_
    refine wpAny_pure ⟨plainId_quiet PyProof.Rows.F.plain_set_update_loop _, set_upd W a ha ns en ht room k (i + 1) _ _ _ (by omega) lt (W.frame _ s' _ _ hz' (Nat.le_succ _) fun b hb' o e => ?_) hS2 (by split <;> omega) (fun x => ?_) fun s2 S2 m2 mv2 hS3 hm3 hx3 => ?_⟩
    · rw [hb.2 b (fun h : b = a => ha (by rw [← h]; exact hb'))]
      exact e
    · rw [Bool.or_eq_true, decide_eq_true_eq, hx x, List.take_succ, List.mem_append, List.getElem?_eq_getElem (by omega), Option.toList_some, List.mem_singleton, List.getD_eq_getElem?_getD, List.getElem?_eq_getElem (by omega), Option.getD_some]
    · refine hR s2 S2 m2 (Moved.trans W.gtrans ((mv.mono sb).then_heap (Nat.le_succ _) fun b o hb' e => ?_) mv2) hS3 hm3 hx3
      rw [hb.2 b (fun h : b = a => hb' (by rw [h]; exact List.mem_cons_self))]
      exact e
theorem set_new1 {E : Value → Shared → Prop} {s : Shared} (a : Value) {Q : Value → Shared → Prop}
    (h : Q (.ref s.heap.objs.size) { s with heap := s.heap.push { cls := .type "set", dict := none, data := .set #[] 0 (.fresh 0 0 (!w.params.followText "set-order")) } }) :
    codeAny (model P w) A (.call (.builtin "set.__new__") ⟨[.type "set", a], []⟩) (wants Q E) s := by
  refine codeAny_of_tree ?_
  refine wpAny_bind (m := checkBuiltinCall "set.__new__" _) (wpAny_of_eq (PySem.F.newCall_set_1 a) (wpAny_pure ⟨plainId_quiet F.plain_set_new _, codeAny_builtin F.entry_set_new ?_⟩))
  rw [PySem.Around.under_plainId F.plain_set_new _]
  unfold Builtin.«set.__new__» Builtin.Frozenset.newClass
  have sub := sub_set_self
  obtain ⟨hp, g, d, tk, os⟩ := s
  dsimp only
  wp_walk
  refine wpAny_askSetting (wpAny_pure ?_)
  simp only [newObj]
  exact wpAny_bind (wpAny_alloc (wpAny_pure (wpAny_pure h)))
set_option maxHeartbeats 4000000 in
theorem set_call1 {E : Value → Shared → Prop} {s : Shared} {l : Addr} {its : Array Value} {ns : List Int} {Q : Value → Shared → Prop}
    (calm : A.handled = none) (hl : s.heap.IsList l its) (hi : IntsAre its.toList ns) (room : its.size + 1 < scanBound)
    (h : ∀ (h' : Heap) (tk : Nat) (S : Int → Bool) (m : Nat), SetR w h' s.heap.objs.size S m → m ≤ ns.length → (∀ x, S x = true ↔ x ∈ ns) → (∀ b o, s.heap.get? b = some o → h'.get? b = some o) → Q (.ref s.heap.objs.size) { s with heap := h', toks := tk }) :
    wpAny (model P w) A (call (.type "set") [.ref l]) Q E s := by
  obtain ⟨c, tl, cm⟩ := F.called_set.mro
  have c1 := F.called_set.made
  have c2 := F.called_set.sub
  refine wpAny_call (codeAny_of_tree ?_)
  show wpAny _ _ (callAny (.type "set") _) _ _ _
  refine wpAny_pure ⟨Code.quiet_builtin _ (by decide +kernel), codeAny_builtin F.entry_type_call ?_⟩
  rw [PySem.Around.under_plain (weight_type_call_type "set" [.ref l] []) rfl]
  have c3 := F.called_set.notType
  have c4 := F.called_set.canCreate
  have c5 := PySem.F.typeCall_set_1 (.ref l)
  repeat (any_goals (first | assumption | wp_step))
  generalize eO : (!w.params.followText "set-order") = led
  refine codeAny_mono (set_new1 (.ref l) (E := E) (Q := fun v s1 => v = .ref s.heap.objs.size ∧ s1 = { s with heap := s.heap.push { cls := .type "set", dict := none, data := .set #[] 0 (.fresh 0 0 led) } }) (by rw [eO]; exact ⟨rfl, rfl⟩)) fun r s1 hr => ?_
  cases r with
  | error e => exact hr
  | ok fl =>
    cases fl with
    | ret v =>
      obtain ⟨rfl, rfl⟩ := hr
      have hO : (s.heap.push { cls := .type "set", dict := none, data := .set #[] 0 (.fresh 0 0 led) }).get? s.heap.objs.size = some { cls := .type "set", dict := none, data := .set #[] 0 (.fresh 0 0 led) } := Heap.get?_push_size _ rfl
      have hT : Shared.TypeIs { s with heap := s.heap.push { cls := .type "set", dict := none, data := .set #[] 0 (.fresh 0 0 led) } } (.ref s.heap.objs.size) "set" := ⟨_, hO, rfl⟩
      have c6 := F.called_set.init.lookup
      have c7 := F.called_set.init.bind (.ref s.heap.objs.size)
      have hR0 : SetR w (s.heap.push { cls := .type "set", dict := none, data := .set #[] 0 (.fresh 0 0 led) }) s.heap.objs.size (fun _ => false) 0 := by
        rw [← eO]
        exact setR_fresh w
      repeat (any_goals (first | assumption | wp_step))
      refine codeAny_mono (codeAny_call_builtin (R := wants (fun r s2 => r = .none ∧ ∃ h' tk S m, s2 = { s with heap := h', toks := tk } ∧ SetR w h' s.heap.objs.size S m ∧ m ≤ ns.length ∧ (∀ x, S x = true ↔ x ∈ ns) ∧ (∀ b o, s.heap.get? b = some o → h'.get? b = some o)) E)
        F.called_set.init.plain F.entry_set_init (PySem.check_set_init_1 hT ?_)) fun r2 s2 hr2 => ?_
      · obtain ⟨⟨oc, od, oo, os⟩, g1, g2, nl, g3⟩ := hl
        simp only at g2 g3
        subst g2
        subst g3
        have g4 : (s.heap.push { cls := .type "set", dict := none, data := .set #[] 0 (.fresh 0 0 led) }).get? l = some { cls := .type "list", dict := od, data := .seq its nl, slots := os } := Heap.get?_push_of_some _ g1
        have n1 := PySem.F.sub_list_set
        have n2 := PySem.F.sub_list_frozenset
        have n3 : (Value.type "list" == Value.type "dict") = false := by decide
        have g5 : (s.heap.push { cls := .type "set", dict := none, data := .set #[] 0 (.fresh 0 0 led) }).IsList l its := ⟨_, g4, rfl, nl, rfl⟩
        unfold Builtin.«set.__init__» noKeywords Builtin.Frozenset.updateFrom
        generalize hPI : pyIter = PI
        wp_walk
        subst hPI
        refine wpAny_pyIter_list g5 ?_
        refine wpAny_bind (wpAny_runValue ?_)
        have lt : l < s.heap.objs.size := Heap.lt_size g1
        have calm3 : A.in1.in1.in1.handled = none := by simp [calm]
        have ne1 : l ≠ (s.heap.push { cls := .type "set", dict := none, data := .set #[] 0 (.fresh 0 0 led) }).objs.size := by
          rw [Heap.size_push]
          exact Nat.ne_of_lt (Nat.lt_succ_of_lt lt)
        have ne2 : s.heap.objs.size ∉ [(s.heap.push { cls := .type "set", dict := none, data := .set #[] 0 (.fresh 0 0 led) }).objs.size, l] := by
          rw [Heap.size_push]
          simp only [List.mem_cons, List.mem_singleton, List.not_mem_nil, or_false, not_or]
          exact ⟨Nat.ne_of_lt (Nat.lt_succ_self _), Nat.ne_of_gt lt⟩
        refine set_upd ((Walks.list calm3 _ l ne1 its).toS) s.heap.objs.size ne2 ns (by rw [← hi.length, Array.length_toList]) (fun i v hv => PyProof.Rows.IntsAre.int_at hi i v (by rw [Array.getElem?_toList]; exact hv)) room (its.size - 0) 0 0 _ _ (by omega) (Nat.zero_le _)
          ⟨⟨_, Heap.get?_push_size _ rfl, rfl, rfl⟩, g5.push _⟩ (hR0.at fun o e => Heap.get?_push_of_some _ e) (Nat.le_refl _) (fun x => by simp) fun s' S' m' mv hS hm hx => ?_
        obtain ⟨h', g', d', tk', os'⟩ := s'
        obtain rfl : g' = s.gens := mv.gens
        obtain rfl : d' = s.drawn := mv.drawn
        obtain rfl : os' = s.os := mv.os
        refine wpAny_pure (wpAny_pure ⟨rfl, h', tk', S', m', rfl, hS, by rw [← hi.length, Array.length_toList]; exact hm, hx, fun b o e => ?_⟩)
        have b1 := Heap.lt_size e
        refine mv.heap b o ?_ (Heap.get?_push_of_some _ (Heap.get?_push_of_some _ e))
        rw [Heap.size_push]
        simp only [List.mem_cons, List.mem_singleton, List.not_mem_nil, or_false, not_or]
        exact ⟨Nat.ne_of_lt b1, Nat.ne_of_lt (Nat.lt_succ_of_lt b1)⟩
      · cases r2 with
        | error e => exact hr2
        | ok fl2 =>
          cases fl2 with
          | ret r =>
            obtain ⟨rfl, h', tk, S, m, rfl, q1, q2, q3, q4⟩ := hr2
            repeat (any_goals (first | assumption | wp_step))
            exact h _ _ _ _ q1 q2 q3 q4
          | _ => exact hr2.elim
    | _ => exact hr.elim
end
def rSetL (w : World) (K : PySem.W.Frag) : List V → Hp → VK → Prop := fun xs H Q => ∃ (a : Addr) (ns : List Int), xs = [V.ref a] ∧ SqL K H a (ns.map V.int) ∧ ns.length + 1 < scanBound ∧ ∀ p S m, H p = none → m ≤ ns.length → (∀ x, S x = true ↔ x ∈ ns) → Q (.ref p) (upd H p (SetO w p S m))
theorem cr_setL {X : Cx} (hc : X.calm = true) : CallR X (.type "set") (rSetL X.w X.K) := by
  intro pins s σ H xs us Q I r h
  obtain ⟨a, ns, rfl, ha, room, q⟩ := h
  obtain ⟨its, rv, hl, _⟩ := I.list ha
  rw [Vals.ref1 r]
  have hi := rv.ints
  exact set_call1 (I.ok.hd hc) hl.isList hi (by rw [List.size_toArray, hi.length]; exact room) fun h' tk S m hS hm hx keep => ⟨.ref _, _, I.laid (t' := tk) keep (Nat.le_refl _) (setO_new hS), rfl, q _ S m (I.hok.fresh (Nat.le_refl _)) hm hx⟩
theorem s_setOf {w : World} {K : PySem.W.Frag} {H : Hp} {Q : VK} {a : Addr} {ns : List Int} (ha : SqL K H a (ns.map V.int)) (room : ns.length + 1 < scanBound) (k : ∀ p S m H', H p = none → Ex H H' → H' p = some (SetO w p S m) → m ≤ ns.length → (∀ x, S x = true ↔ x ∈ ns) → Q (.ref p) H') : rSetL w K [.ref a] H Q :=
  ⟨a, ns, rfl, ha, room, fun p S m hp h1 h2 => k p S m _ hp (Ex.new hp) upd_same h1 h2⟩
theorem s_sortedSet {w : World} {H : Hp} {Q : VK} {a : Addr} {S : Int → Bool} {m : Nat} (ha : H a = some (SetO w a S m)) (room : m < 64) (k : ∀ (ns : List Int) p H', ns.Pairwise (· < ·) → (∀ x : Int, x ∈ ns ↔ S x = true) → ns.length = m → H p = none → Ex H H' → H' p = some (.lst (ns.map V.int)) → Q (.ref p) H') : rSortedSet w [.ref a] H Q :=
  ⟨a, S, m, rfl, ha, room, fun ns p h1 h2 h3 hp => k ns p _ h1 h2 h3 hp (Ex.new hp) upd_same⟩
end Z

set_option Elab.async false
set_option maxRecDepth 100000
set_option maxHeartbeats 4000000
set_option linter.all false
namespace Q
open PySem L2 Z
def top (i : Nat) : Stmt := PySem.Challenge.pw_pikeroll_k06_what_holds_on_a_day.main.body.getD i (.Pass ⟨0, 0, 0, 0⟩)
abbrev s_p_holding : Stmt := top 1
abbrev s_p_toll_on : Stmt := top 2
abbrev s_p_board_on : Stmt := top 3
abbrev s_p_trust_on : Stmt := top 4
abbrev s_l_bag : Stmt := top 6
abbrev s_l_pull : Stmt := top 7
abbrev s_l_like : Stmt := top 8
abbrev s_l_gate : Stmt := top 9
abbrev s_l_day : Stmt := top 10
abbrev s_l_board : Stmt := top 11
abbrev s_l_passing : Stmt := top 12
abbrev s_l_stretch : Stmt := top 13
abbrev s_l_fact : Stmt := top 14
abbrev s_l_facts : Stmt := top 15
abbrev s_l_hold : Stmt := top 16
abbrev s_l_clears : Stmt := top 17
abbrev s_law : Stmt := top 18

local macro_rules | `(tactic| walk_at "z0") => `(tactic| try dsimp only [L2.cxOf, L2.Cx.nox, L2.Cx.wish])
local macro_rules | `(tactic| walk_at "zside") => `(tactic| first
  | decide | omega | exact ⟨by omega, by omega⟩ | exact Or.inr ⟨by omega, by omega⟩ | exact Or.inl ⟨by omega, by omega⟩ | exact ⟨by decide, by decide⟩ | exact ⟨by decide, by decide, by decide⟩ | (dsimp only; omega))
local macro_rules | `(tactic| walk_at "zex") => `(tactic| first | assumption | exact Ex.refl | (refine Ex.trans ?_ (by assumption); walk_at "zex"))
local macro_rules | `(tactic| walk_at "zbag") => `(tactic| first | assumption | (apply Bag.ext; assumption; walk_at "zex"))
local macro_rules | `(tactic| walk_at "zne") => `(tactic| first | assumption | exact Ne.symm (by assumption) | (apply neb_of; assumption; walk_at "zbag") | (apply nec_of; assumption; walk_at "zbag"))
local macro_rules | `(tactic| walk_at "zhp") => `(tactic| first | assumption | exact upd_same | (refine upd_at ?_ ?_; (focus (walk_at "zne")); walk_at "zhp") | (apply ex_at; assumption; walk_at "zhp") | (apply fr_at; assumption; (focus (walk_at "zne")); walk_at "zhp"))
local macro_rules | `(tactic| walk_at "zkb") => `(tactic| first | with_reducible exact kb_int_tuple | with_reducible exact kb_int_list | with_reducible exact kb_int_bool | with_reducible exact kb_int_int | with_reducible exact kb_str_tuple | with_reducible exact kb_str_list | with_reducible exact kb_str_bool | with_reducible exact kb_str_int | with_reducible exact kb_bool_tuple | with_reducible exact kb_bool_list | with_reducible exact kb_bool_bool | with_reducible exact kb_bool_int | with_reducible exact kb_NoneType_tuple | with_reducible exact kb_NoneType_list | with_reducible exact kb_NoneType_bool | with_reducible exact kb_NoneType_int | with_reducible exact kb_tuple_tuple | with_reducible exact kb_tuple_list | with_reducible exact kb_tuple_bool | with_reducible exact kb_tuple_int | with_reducible exact kb_list_tuple | with_reducible exact kb_list_list | with_reducible exact kb_list_bool | with_reducible exact kb_list_int)
local macro_rules | `(tactic| walk_at "zsz") => `(tactic| first | exact sz (by decide) | exact sz (by simp) | exact sz (by omega))
local macro_rules | `(tactic| walk_at "zex") => `(tactic| first | assumption | exact Ex.refl | (refine Ex.trans ?_ (by assumption); walk_at "zex"))
local macro_rules | `(tactic| walk_at "zsL") => `(tactic| first | exact SqL.of (by walk_at "zhp") | assumption | (apply sqL_ex; assumption; walk_at "zex"))
local macro_rules | `(tactic| walk_at "zsT") => `(tactic| first | exact SqT.of (by walk_at "zhp") | assumption | (apply sqT_ex; assumption; walk_at "zex"))
local macro_rules | `(tactic| walk_at "zsq") => `(tactic| first | walk_at "zsL" | walk_at "zsT" | (apply Or.inl; walk_at "zsL") | (apply Or.inr; walk_at "zsT"))
local macro_rules | `(tactic| walk_at "zty") => `(tactic| first | assumption | exact .base (.int _) | exact .base (.bl _) | exact .base (.str _) | exact .base .non | exact ty_sqT (by walk_at "zsq") | exact ty_sqL (by walk_at "zsq"))
local macro_rules | `(tactic| walk_at "zbag") => `(tactic| first | assumption | (apply Bag.ext; assumption; walk_at "zex"))
local macro_rules | `(tactic| walk_at "zpull") => `(tactic| (apply use_pull; (focus (walk_at "zbag")); (focus (first | exact ⟨by decide, by decide⟩ | exact ⟨by omega, by omega⟩ | (exact ⟨by simp; omega, by simp; omega⟩))); intro _ _ _ _ _ _))
local macro_rules | `(tactic| walk_at "zin") => `(tactic| repeat (first | exact intIn_nil | (refine intIn_cons ⟨?_, ?_⟩ ?_; (focus omega); (focus omega)) | (refine intIn_cons ?_ ?_; (focus (first | assumption | exact ⟨by omega, by omega⟩)))))
local macro_rules | `(tactic| walk_at "zfr") => `(tactic| first | assumption | exact Fr.refl | (refine Fr.trans ?_ (by assumption); walk_at "zfr") | (refine Fr.trans ?_ (Ex.fr _ (by assumption)); walk_at "zfr"))
local macro_rules | `(tactic| walk_at "zdp") => `(tactic| repeat' (first | exact DpAll.nil | apply DpAll.cons | exact Dp.int _ | exact Dp.str _ | exact Dp.bl _ | exact Dp.non | assumption))
local macro_rules | `(tactic| walk_at "zR") => `(tactic| first | assumption | exact ⟨by omega, by omega⟩)
local macro_rules | `(tactic| walk_at "z1") => `(tactic| first
  | ((with_reducible apply s_var); exact rfl)
  | with_reducible refine s_C ?_
  | with_reducible refine s_op ?_
  | ((with_reducible apply s_rI); (focus (walk_at "zside")))
  | with_reducible refine s_rI0 ?_
  | with_reducible refine s_rEqI ?_
  | with_reducible refine s_rNeI ?_
  | with_reducible refine s_rEqS ?_
  | with_reducible refine s_rNeS ?_
  | with_reducible refine s_rEqB ?_
  | with_reducible refine s_rNeB ?_
  | ((with_reducible apply s_ixL); (focus (walk_at "zsq")); (focus (exact rfl)))
  | ((with_reducible apply s_ixT); (focus (walk_at "zsq")); (focus (exact rfl)))
  | ((with_reducible apply s_rLen); (focus (walk_at "zsq")))
  | with_reducible refine s_rAbs ?_
  | with_reducible refine s_rMax2 ?_
  | with_reducible refine s_rMin2 ?_
  | with_reducible refine s_rInt1 ?_
  | with_reducible refine s_rIntB ?_
  | with_reducible refine s_rIsN ?_
  | with_reducible refine s_rNotN ?_
  | with_reducible refine s_rFind ?_
  | ((with_reducible apply s_newS); (focus (walk_at "zsz")); intro _ _ _ _ _)
  | ((with_reducible apply s_new); intro _ _ _ _ _)
  | ((with_reducible apply s_slL); (focus (walk_at "zsq")))
  | ((with_reducible apply s_isi); (focus (walk_at "zty")); (focus (walk_at "zkb")))
  | ((with_reducible apply s_isiTL); (focus (walk_at "zhp")); (focus (walk_at "zty")); (focus (walk_at "zkb")); (focus (walk_at "zkb")))
  | ((with_reducible apply s_rListOf); (focus (walk_at "zsq")))
  | ((with_reducible apply s_rTupleOf); (focus (walk_at "zsq")))
  | ((with_reducible apply s_rDivmod); (focus (walk_at "zside")))
  | ((with_reducible apply s_rRjust); (focus (exact rfl)))
  | ((with_reducible apply s_rEq); (focus (exact rfl)))
  | ((with_reducible apply s_rNe); (focus (exact rfl)))
  | with_reducible refine s_tB ?_
  | with_reducible refine s_tTest ?_
  | with_reducible refine s_bl ?_
  | with_reducible refine s_nil ?_
  | with_reducible refine s_cons ?_
  | with_reducible refine s_CB ?_
  | with_reducible refine s_call ?_
  | walk_at "zpull"
  | ((with_reducible apply use_int); (focus (walk_at "zbag")); intro _ _ _ _ _ _)
  | with_reducible refine s_seq ?_
  | ((with_reducible refine s_set ?_); try dsimp only [List.set_cons_zero, List.set_cons_succ])
  | with_reducible refine s_ifS ?_
  | with_reducible refine s_ret ?_
  | with_reducible refine s_drop ?_
  | with_reducible refine s_next ?_
  | with_reducible refine s_and ?_
  | with_reducible refine s_or ?_
  | with_reducible refine s_not ?_
  | with_reducible refine s_andV ?_
  | with_reducible refine s_orV ?_
  | with_reducible refine s_notV ?_
  | with_reducible refine s_ifE ?_
  | with_reducible refine s_un ?_
  | with_reducible refine s_rU ?_
  | with_reducible refine s_chain ?_
  | with_reducible refine s_tup ?_
  | with_reducible refine s_lst ?_
  | with_reducible refine s_sl ?_
  | with_reducible refine s_noPart ?_
  | with_reducible refine s_part ?_
  | with_reducible refine s_partI ?_
  | ((with_reducible refine s_gName ?_); try dsimp only [List.set_cons_zero, List.set_cons_succ])
  | with_reducible refine s_gSub ?_
  | ((with_reducible apply s_gTup); (focus (walk_at "zsq")); (focus (exact rfl)))
  | with_reducible refine s_gCons ?_
  | with_reducible refine s_gNil ?_
  | with_reducible refine s_asg ?_
  | with_reducible refine s_par ?_
  | ((with_reducible refine s_parI ?_); try dsimp only [List.set_cons_zero, List.set_cons_succ])
  | with_reducible refine s_fld ?_
  | with_reducible refine s_bm ?_
  | with_reducible refine s_bm0 ?_
  | with_reducible refine s_m0 ?_
  | with_reducible refine s_m1 ?_
  | with_reducible refine s_for ?_
  | with_reducible refine s_iRng1 ?_
  | with_reducible refine s_iRng2 ?_
  | with_reducible refine s_iList ?_
  | with_reducible refine s_iTup ?_
  | with_reducible refine s_iStr ?_
  | with_reducible refine s_iEnum ?_
  | with_reducible refine ite_t ?_
  | with_reducible refine ite_f ?_
  | with_reducible refine s_isStr ?_
  | with_reducible refine s_callS ?_
  | with_reducible refine s_rNotInS ?_
  | with_reducible refine s_rInS ?_
  | with_reducible refine s_tFmt ?_
  | with_reducible refine s_tFS ?_
  | with_reducible refine s_jsNil ?_
  | with_reducible refine s_jsCons ?_
  | with_reducible refine s_tRevL ?_
  | ((with_reducible apply s_revV); (focus (walk_at "zsq")))
  | with_reducible refine s_tyS ?_
  | ((with_reducible apply s_tyL); (focus (walk_at "zsq")))
  | ((with_reducible apply s_rRjust2); (focus (exact ⟨by decide, by decide⟩)))
  | with_reducible refine s_lc ?_
  | with_reducible refine s_yes ?_
  | ((with_reducible apply ite_fE); (focus (exact rfl)))
  | ((with_reducible apply ite_tE); (focus (exact rfl))))
local macro_rules | `(tactic| walk_at "z") => `(tactic| repeat (walk_at "z1"))

structure Tx (K : PySem.W.Frag) (mg : Str → Option Value) where
  f_p_holding : Addr
  d_p_holding : FuncData
  F_p_holding : Fun K "holding" "holding" s_p_holding f_p_holding d_p_holding
  g_p_holding : mg "holding" = some (.ref f_p_holding)
  b_p_holding : Binds K d_p_holding ["facts", "word", "gate", "day", "unsaid"] []
  f_p_toll_on : Addr
  d_p_toll_on : FuncData
  F_p_toll_on : Fun K "toll_on" "toll_on" s_p_toll_on f_p_toll_on d_p_toll_on
  g_p_toll_on : mg "toll_on" = some (.ref f_p_toll_on)
  b_p_toll_on : Binds K d_p_toll_on ["facts", "gate", "day"] []
  f_p_board_on : Addr
  d_p_board_on : FuncData
  F_p_board_on : Fun K "board_on" "board_on" s_p_board_on f_p_board_on d_p_board_on
  g_p_board_on : mg "board_on" = some (.ref f_p_board_on)
  b_p_board_on : Binds K d_p_board_on ["facts", "gate", "day"] []
  f_p_trust_on : Addr
  d_p_trust_on : FuncData
  F_p_trust_on : Fun K "trust_on" "trust_on" s_p_trust_on f_p_trust_on d_p_trust_on
  g_p_trust_on : mg "trust_on" = some (.ref f_p_trust_on)
  b_p_trust_on : Binds K d_p_trust_on ["facts", "gate", "day"] []
  f_l_bag : Addr
  d_l_bag : FuncData
  F_l_bag : Fun K "_law_bag" "_law_bag" s_l_bag f_l_bag d_l_bag
  g_l_bag : mg "_law_bag" = some (.ref f_l_bag)
  b_l_bag : Binds K d_l_bag ["_law_script"] []
  f_l_pull : Addr
  d_l_pull : FuncData
  F_l_pull : Fun K "_law_pull" "_law_pull" s_l_pull f_l_pull d_l_pull
  g_l_pull : mg "_law_pull" = some (.ref f_l_pull)
  b_l_pull : Binds K d_l_pull ["_law_bag_here", "_law_amount"] []
  f_l_like : Addr
  d_l_like : FuncData
  F_l_like : Fun K "_law_like" "_law_like" s_l_like f_l_like d_l_like
  g_l_like : mg "_law_like" = some (.ref f_l_like)
  b_l_like : Binds K d_l_like ["_law_found", "_law_due"] []
  f_l_gate : Addr
  d_l_gate : FuncData
  F_l_gate : Fun K "_law_gate" "_law_gate" s_l_gate f_l_gate d_l_gate
  g_l_gate : mg "_law_gate" = some (.ref f_l_gate)
  b_l_gate : Binds K d_l_gate ["_law_bag_here"] []
  f_l_day : Addr
  d_l_day : FuncData
  F_l_day : Fun K "_law_day" "_law_day" s_l_day f_l_day d_l_day
  g_l_day : mg "_law_day" = some (.ref f_l_day)
  b_l_day : Binds K d_l_day ["_law_bag_here"] []
  f_l_board : Addr
  d_l_board : FuncData
  F_l_board : Fun K "_law_board" "_law_board" s_l_board f_l_board d_l_board
  g_l_board : mg "_law_board" = some (.ref f_l_board)
  b_l_board : Binds K d_l_board ["_law_bag_here"] []
  f_l_passing : Addr
  d_l_passing : FuncData
  F_l_passing : Fun K "_law_passing" "_law_passing" s_l_passing f_l_passing d_l_passing
  g_l_passing : mg "_law_passing" = some (.ref f_l_passing)
  b_l_passing : Binds K d_l_passing ["_law_bag_here"] []
  f_l_stretch : Addr
  d_l_stretch : FuncData
  F_l_stretch : Fun K "_law_stretch" "_law_stretch" s_l_stretch f_l_stretch d_l_stretch
  g_l_stretch : mg "_law_stretch" = some (.ref f_l_stretch)
  b_l_stretch : Binds K d_l_stretch ["_law_bag_here"] []
  f_l_fact : Addr
  d_l_fact : FuncData
  F_l_fact : Fun K "_law_fact" "_law_fact" s_l_fact f_l_fact d_l_fact
  g_l_fact : mg "_law_fact" = some (.ref f_l_fact)
  b_l_fact : Binds K d_l_fact ["_law_bag_here", "_law_amount"] []
  f_l_facts : Addr
  d_l_facts : FuncData
  F_l_facts : Fun K "_law_facts" "_law_facts" s_l_facts f_l_facts d_l_facts
  g_l_facts : mg "_law_facts" = some (.ref f_l_facts)
  b_l_facts : Binds K d_l_facts ["_law_bag_here", "_law_most"] []
  f_l_hold : Addr
  d_l_hold : FuncData
  F_l_hold : Fun K "_law_hold" "_law_hold" s_l_hold f_l_hold d_l_hold
  g_l_hold : mg "_law_hold" = some (.ref f_l_hold)
  b_l_hold : Binds K d_l_hold ["_law_facts_here", "_law_word", "_law_gate_here", "_law_day_here", "_law_other"] []
  f_l_clears : Addr
  d_l_clears : FuncData
  F_l_clears : Fun K "_law_clears" "_law_clears" s_l_clears f_l_clears d_l_clears
  g_l_clears : mg "_law_clears" = some (.ref f_l_clears)
  b_l_clears : Binds K d_l_clears ["_law_facts_here", "_law_gate_here", "_law_day_here"] []
  z_len : mg "len" = none
  z_isinstance : mg "isinstance" = none
  z_tuple : mg "tuple" = none
  z_list : mg "list" = none
  z_bool : mg "bool" = none
  z_range : mg "range" = none
  z_all : mg "all" = none
  z_int : mg "int" = none
  z_max : mg "max" = none
  z_set : mg "set" = none
  z_sorted : mg "sorted" = none
section
variable {P : Program} {w : World} {K : PySem.W.Frag} {mg : Str → Option Value} {base : Heap}
theorem sc_l_pull : FnScope ["_law_bag_here", "_law_amount", "_law_cell", "_law_got", "_law_seed"] ["_law_bag_here", "_law_amount"] (defScope s_l_pull) :=
  ⟨rfl, rfl, rfl, by decide +kernel, rfl, by decide +kernel, by decide +kernel⟩
theorem ok_l_pull (T : Tx K mg) : FnOk P w K mg base CX0 1 T.f_l_pull T.d_l_pull ["_law_bag_here", "_law_amount"] spPull := by
  refine T.F_l_pull.ok sc_l_pull (fun vs H Q E h => ?_) (fun cdv A outer s H vs Q E hr h => ?_)
  · obtain ⟨b, c, n, rfl, _⟩ := h
    rfl
  · obtain ⟨b, c, n, rfl, B, n0, n1, k⟩ := h
    have cb : c ≠ b := B.cb
    obtain ⟨cells, i, big, salt, hb, hc, hi, hg, hs0, hs1⟩ := B.ex
    refine ⟨_, (Evl.pss_cut (ps_if (PW.pt (pw_and (pt_cmpR op_eq (pe_ix (r := rIxL K) ix_list (pv 0) pe_int (fun _ _ => rfl)) pe_int (nomark _)) (pw_and1 (pt_cmpR op_lt (pe_ix (r := rIxL K) ix_list (pv 0) pe_int (fun _ _ => rfl)) (pe_callB (r := Z.rLen K) cz_len (by rfl) T.z_len PySem.boot_len (pa_cons (pe_ix (r := rIxL K) ix_list (pv 0) pe_int (fun _ _ => rfl)) pa_nil)) (nomark _))))) (pss_cons (ps_set (i := 2) sc_l_pull.nd rfl (Or.inl rfl) (pe_ix (r := rIxL K) ix_list (pe_ix (r := rIxL K) ix_list (pv 0) pe_int (fun _ _ => rfl)) (pe_ix (r := rIxL K) ix_list (pv 0) pe_int (fun _ _ => rfl)) (fun _ _ => rfl))) (pss_cons (ps_asg (pe_op op_add (pe_ix (r := rIxL K) ix_list (pv 0) pe_int (fun _ _ => rfl)) pe_int) (pg_sub (pv 0) pe_int set_list)) (pss_one (ps_if (pt_cmpR op_ge (pv 2) (pe_op op_pow pe_int pe_int) (nomark _)) (pss_one (ps_asg (pv 2) (pg_sub (pv 0) pe_int set_list))) (pss_one (ps_asg (pe_op op_mod (pe_op op_add (pe_op op_add (pe_op op_mul (pe_ix (r := rIxL K) ix_list (pv 0) pe_int (fun _ _ => rfl)) pe_int) (pe_op op_mul (pe_op op_mod (pv 2) pe_int) pe_int)) pe_int) pe_int) (pg_sub (pv 0) pe_int set_list))))))) pss_nil) (pss_cons (ps_if (pt_cmpR op_gt (pe_ix (r := rIxL K) ix_list (pv 0) pe_int (fun _ _ => rfl)) pe_int (nomark _)) (pss_cons (ps_set (i := 3) sc_l_pull.nd rfl (Or.inl rfl) (pe_op op_mod (pe_ix (r := rIxL K) ix_list (pv 0) pe_int (fun _ _ => rfl)) (pv 1))) (pss_cons (ps_asg (pe_op op_fdivW (pe_ix (r := rIxL K) ix_list (pv 0) pe_int (fun _ _ => rfl)) (pv 1)) (pg_sub (pv 0) pe_int set_list)) (pss_one (ps_ret (pv 3))))) pss_nil) (pss_cons (ps_set (i := 4) sc_l_pull.nd rfl (Or.inl rfl) (pe_ix (r := rIxL K) ix_list (pv 0) pe_int (fun _ _ => rfl))) (pss_cons (ps_asg (pe_op op_mod (pe_op op_add (pe_op op_add (pe_op op_mul (pv 4) pe_int) (pe_op op_mul (pe_op op_fdiv (pv 4) pe_int) pe_int)) pe_int) pe_int) (pg_sub (pv 0) pe_int set_list)) (pss_one (ps_ret (pe_op op_mod (pe_op op_add (pe_op op_fdiv (pe_ix (r := rIxL K) ix_list (pv 0) pe_int (fun _ _ => rfl)) pe_int) (pe_op op_mul (pe_op op_mod (pe_ix (r := rIxL K) ix_list (pv 0) pe_int (fun _ _ => rfl)) pe_int) pe_int)) (pv 1)))))))), ?_⟩
    refine at_start (ρ' := [some _, some _, none, none, none]) rfl ?_
    walk_at "z0"
    refine s_cut (fun ρ H' => ∃ v, ρ = [some (.ref b), some (.int n), v, none, none] ∧ Bag H' b c ∧ Fr b H H') ?_ ?_
    · walk_at "z"
      refine ite_dec (fun h0 => ?_) (fun h0 => ?_)
      · walk_at "z"
        refine ite_dec (fun h1 => ?_) (fun h1 => ?_)
        · rw [List.length_map] at h1
          have h2 : i < cells.length := by omega
          walk_at "z"
          refine s_ixL (SqL.of hc) (atI_nat (v := .int (cells[i])) (by rw [List.getElem?_map, List.getElem?_eq_getElem h2]; rfl)) ?_
          walk_at "z"
          refine s_setN hb (m := 1) rfl [.ref c, .int ((i + 1 : Nat) : Int), .int big, .int salt] rfl fun H1 e1 hb1 => ?_
          have hc1 := e1 _ _ cb hc
          walk_at "z"
          refine ite_dec (fun h3 => ?_) (fun h3 => ?_)
          · walk_at "z"
            refine s_setN hb1 (m := 2) rfl [.ref c, .int ((i + 1 : Nat) : Int), .int (cells[i]), .int salt] rfl fun H2 e2 hb2 => ?_
            have h3 : (10 : Int) ^ 18 ≤ cells[i] := h3
            exact ⟨_, rfl, .mk' hb2 (e2 _ _ cb hc1) h2 (by omega) ⟨hs0, hs1⟩, e1.trans e2⟩
          · walk_at "z"
            refine s_setN hb1 (m := 3) rfl [.ref c, .int ((i + 1 : Nat) : Int), .int big, .int _] rfl fun H2 e2 hb2 => ?_
            exact ⟨_, rfl, .mk' hb2 (e2 _ _ cb hc1) h2 hg ⟨Int.emod_nonneg _ (by decide), Int.emod_lt_of_pos _ (by decide)⟩, e1.trans e2⟩
        · walk_at "z"
          exact ⟨_, rfl, B, Fr.refl⟩
      · walk_at "z"
        exact ⟨_, rfl, B, Fr.refl⟩
    · rintro ρ H1 ⟨v, rfl, B1, e1⟩
      obtain ⟨cells, i, big, salt, hb, hc, hi, hg, hs0, hs1⟩ := B1.ex
      walk_at "z"
      refine ite_dec (fun h0 => ?_) (fun h0 => ?_)
      · walk_at "z"
        refine s_rI (wide_div n0 (b := 200) (by omega) (by decide) (by decide)) ?_
        walk_at "z"
        refine s_setN hb (m := 2) rfl [.ref c, .int (i : Int), .int (big / n), .int salt] rfl fun H2 e2 hb2 => ?_
        walk_at "z"
        exact k _ _ (Int.emod_nonneg _ (by omega)) (Int.emod_lt_of_pos _ n0) (.mk' hb2 (e2 _ _ cb hc) hi (Int.ediv_nonneg hg (by omega)) ⟨hs0, hs1⟩) (e1.trans e2)
      · walk_at "z"
        refine s_setN hb (m := 3) rfl [.ref c, .int (i : Int), .int big, .int _] rfl fun H2 e2 hb2 => ?_
        walk_at "z"
        exact k _ _ (Int.emod_nonneg _ (by omega)) (Int.emod_lt_of_pos _ n0) (.mk' hb2 (e2 _ _ cb hc) hi hg ⟨Int.emod_nonneg _ (by decide), Int.emod_lt_of_pos _ (by decide)⟩) (e1.trans e2)

theorem sc_l_bag : FnScope ["_law_script", "_law_salt", "_law_cell"] ["_law_script"] (defScope s_l_bag) :=
  ⟨rfl, rfl, rfl, by decide +kernel, rfl, by decide +kernel, by decide +kernel⟩
theorem ok_l_bag (T : Tx K mg) : FnOk P w K mg base CX0 1 T.f_l_bag T.d_l_bag ["_law_script"] (spBag K) := by
  refine T.F_l_bag.ok sc_l_bag (fun vs H Q E h => ?_) (fun cdv A outer s H vs Q E hr h => ?_)
  · obtain ⟨a, ns, rfl, _⟩ := h
    rfl
  · obtain ⟨a, ns, rfl, hS, hl, k⟩ := h
    refine ⟨_, (pss_cons (ps_set (i := 1) sc_l_bag.nd rfl (Or.inl rfl) pe_int) (pss_cons (ps_for PassesOwn.never rfl (pi_list (pe_slice (r := rSlL K) sl_list (pv 0) po_none (po_some pe_int))) (pg_name (i := 2) sc_l_bag.nd rfl (Or.inl rfl)) (pss_one (ps_set (i := 1) sc_l_bag.nd rfl (Or.inl rfl) (pe_op op_mod (pe_op op_add (pe_op op_add (pe_op op_mul (pv 1) pe_int) (pe_op op_mod (pv 2) pe_int)) pe_int) pe_int)))) (pss_one (ps_ret (pe_lst (pa_cons (pe_callTy (r := rListOf K) cz_listOf (by rfl) T.z_list (by decide +kernel) (pa_cons (pe_slice (r := rSlL K) sl_list (pv 0) po_none (po_some pe_int)) pa_nil)) (pa_cons pe_int (pa_cons pe_int (pa_cons (pv 1) pa_nil))))))))), ?_⟩
    refine at_start (ρ' := [some _, none, none]) rfl ?_
    walk_at "z0"
    walk_at "z"
    rename_i p H1 _ e1 hp
    rw [cut63 (by rw [List.length_map]; exact hl)] at hp
    refine l_list (ns.map V.int) (fun i σ H' => ∃ (z : Int) (v : Option V), σ = [some (.ref a), some (.int z), v] ∧ H' = H1 ∧ 0 ≤ z ∧ z < 2147483647) ⟨977, none, rfl, rfl, by decide, by decide⟩ (fun i σ H' _ h => by
      obtain ⟨_, _, _, rfl, _⟩ := h
      exact .of hp) (fun i x σ H' hx h => ?_) (fun σ H' h => ?_)
    · obtain ⟨z, v, rfl, rfl, h0, h1⟩ := h
      obtain ⟨y, rfl⟩ := map_int_get hx
      walk_at "z"
      exact ⟨_, _, rfl, rfl, Int.emod_nonneg _ (by decide), Int.emod_lt_of_pos _ (by decide)⟩
    · obtain ⟨z, v, rfl, rfl, h0, h1⟩ := h
      walk_at "z"
      rename_i q H2 nq e2 hq c H3 nc e3 hc b H4 nb e4 hb
      rw [cut63 (by rw [List.length_map]; exact hl)] at hc
      refine k b c H4 (Ex.back (by walk_at "zex") nb) (Ex.back (by walk_at "zex") nc) (by walk_at "zex") (.mk' (i := 0) hb (e4 _ _ hc) (Nat.zero_le _) (Int.le_refl _) ⟨h0, h1⟩)

theorem sc_l_like : FnScope ["_law_found", "_law_due", "_law_k"] ["_law_found", "_law_due"] (defScope s_l_like) :=
  ⟨rfl, rfl, rfl, by decide +kernel, rfl, by decide +kernel, by decide +kernel⟩
theorem ok_l_like (T : Tx K mg) : ∀ n, FnOk P w K mg base CX0 n T.f_l_like T.d_l_like ["_law_found", "_law_due"] (spLike K n)
  | 0 => fnOk_no like_no
  | n + 1 => by
    have IH := ok_l_like T n
    refine T.F_l_like.ok sc_l_like (fun vs H Q E h => ?_) (fun cdv A outer s H vs Q E hr h => ?_)
    · obtain ⟨x, y, d, rfl, _⟩ := h
      rfl
    · obtain ⟨x, y, d, rfl, dx, dy, ok, k⟩ := h
      refine ⟨_, (pss_cons (ps_if (PW.pt (pw_or (pt_cmpR op_ne (pe_callB (r := rIsi K) call_isi (by rfl) T.z_isinstance (by decide +kernel) (pa_cons (pv 1) (pa_cons (pe_bltn (v := .ty "tuple") rfl T.z_tuple (by decide +kernel) rfl) pa_nil))) (pe_callB (r := rIsi K) call_isi (by rfl) T.z_isinstance (by decide +kernel) (pa_cons (pv 0) (pa_cons (pe_bltn (v := .ty "tuple") rfl T.z_tuple (by decide +kernel) rfl) pa_nil))) (nomark _)) (pw_or1 (pt_cmpR op_ne (pe_callB (r := rIsi K) call_isi (by rfl) T.z_isinstance (by decide +kernel) (pa_cons (pv 1) (pa_cons (pe_bltn (v := .ty "list") rfl T.z_list (by decide +kernel) rfl) pa_nil))) (pe_callB (r := rIsi K) call_isi (by rfl) T.z_isinstance (by decide +kernel) (pa_cons (pv 0) (pa_cons (pe_bltn (v := .ty "list") rfl T.z_list (by decide +kernel) rfl) pa_nil))) (nomark _))))) (pss_one (ps_ret pe_bl)) pss_nil) (pss_cons (ps_if (pt_not (pt_val (pe_callB (r := rIsiT K) call_isiT (by rfl) T.z_isinstance (by decide +kernel) (pa_cons (pv 1) (pa_cons (pe_tup (pa_cons (pe_bltn (v := .ty "tuple") rfl T.z_tuple (by decide +kernel) rfl) (pa_cons (pe_bltn (v := .ty "list") rfl T.z_list (by decide +kernel) rfl) pa_nil))) pa_nil))))) (pss_one (ps_ret (pe_and (pe_cmpR op_eq (pe_callB (r := rIsi K) call_isi (by rfl) T.z_isinstance (by decide +kernel) (pa_cons (pv 0) (pa_cons (pe_bltn (v := .ty "bool") rfl T.z_bool (by decide +kernel) rfl) pa_nil))) (pe_callB (r := rIsi K) call_isi (by rfl) T.z_isinstance (by decide +kernel) (pa_cons (pv 1) (pa_cons (pe_bltn (v := .ty "bool") rfl T.z_bool (by decide +kernel) rfl) pa_nil))) (nomark _)) (pe_one (pe_cmpR op_eq (pv 0) (pv 1) (nomark _)))))) pss_nil) (pss_one (ps_ret (pe_and (pe_cmpR op_eq (pe_callB (r := Z.rLen K) cz_len (by rfl) T.z_len PySem.boot_len (pa_cons (pv 0) pa_nil)) (pe_callB (r := Z.rLen K) cz_len (by rfl) T.z_len PySem.boot_len (pa_cons (pv 1) pa_nil)) (nomark _)) (pe_one (pe_callB (r := rAll K) (cr_all rfl) (by rfl) T.z_all (by decide +kernel) (pa_cons (pe_lc (own := [("_law_k", 2)]) (by rfl) sc_l_like.nd (pi_range1 (by rfl) T.z_range (pa_cons (pe_callB (r := Z.rLen K) cz_len (by rfl) T.z_len PySem.boot_len (pa_cons (pv 1) pa_nil)) pa_nil)) (blkOk_by (own := [("_law_k", 2)]) (N := ["_law_found", "_law_due", "_law_k"]) (sc := defScope s_l_like) (by decide +kernel)) (fun _ _ _ _ _ => (pg_name (i := 2) sc_l_like.nd rfl (Or.inl rfl))) (fun _ _ _ _ _ => pts_nil) (fun _ _ _ _ _ => (pe_call IH hr rfl T.g_l_like T.F_l_like.kp T.b_l_like .nil pass0 (pa_cons (pe_ix (r := rIx K) ix_seq (pv 0) (pv 2) (fun _ _ => rfl)) (pa_cons (pe_ix (r := rIx K) ix_seq (pv 1) (pv 2) (fun _ _ => rfl)) pa_nil))))) pa_nil)))))))), ?_⟩
      refine at_start (ρ' := [some _, some _, none]) rfl ?_
      walk_at "z0"
      cases dx with
      | int i =>
        cases dy
        walk_at "z"
        exact ev_blT (by simp) (k _ (by walk_at "zex"))
      | bl i =>
        cases dy
        walk_at "z"
        exact ev_blT (by simp) (k _ (by walk_at "zex"))
      | str i =>
        cases dy
        walk_at "z"
        exact ev_blT (by simp) (k _ (by walk_at "zex"))
      | non =>
        cases dy
        walk_at "z"
        exact ev_blT (by simp) (k _ (by walk_at "zex"))
      | lst hx rx =>
        rename_i a xs ds
        cases dy with
        | lst hy ry =>
        rename_i b ys
        obtain ⟨hlen, hds⟩ := ok
        have l1 := dpAll_len rx
        have l2 := dpAll_len ry
        walk_at "z"
        refine ite_pos (by omega) ?_
        walk_at "z"
        rename_i H1 _ e1 _
        refine c_range (by omega) (fun D H' => H1 D = none ∧ Ex H1 H') (fun D i l H' => l = List.replicate i (.bl true)) (fun D H' n e _ => ⟨⟨n, e⟩, rfl⟩) (fun D i l H2 hi e2 hl hz r => ?_) (fun D l H2 e2 hl hz r => ?_)
        · obtain ⟨nD, e2⟩ := e2
          have i1 : i < xs.length := by omega
          have i2 : i < ys.length := by omega
          have i3 : i < ds.length := by omega
          walk_at "z"
          refine ⟨rfl, ?_⟩
          walk_at "z"
          refine Or.inl ⟨_, _, _, _, rfl, rfl, (Ex.sqL (by walk_at "zex") hx), atI_nat (List.getElem?_eq_getElem i1), ?_⟩
          walk_at "z"
          refine Or.inl ⟨_, _, _, _, rfl, rfl, (Ex.sqL (by walk_at "zex") hy), atI_nat (List.getElem?_eq_getElem i2), ?_⟩
          walk_at "z"
          refine ⟨_, _, ds[i], rfl, dp_ex (by walk_at "zex") (dpAll_get rx (List.getElem?_eq_getElem i1) (List.getElem?_eq_getElem i3)), dp_ex (by walk_at "zex") (dpAll_get ry (List.getElem?_eq_getElem i2) (List.getElem?_eq_getElem i3)), hds _ (List.getElem_mem i3), fun H3 e3 => ?_⟩
          exact c_put (e3 _ _ hl) (by omega) fun H5 f5 _ => ⟨⟨nD, fun q o hq => f5 _ _ (ne_of_none hq nD) (e3 _ _ (e2 _ _ hq))⟩, by rw [r, List.replicate_succ']⟩
        · obtain ⟨nD, e2⟩ := e2
          walk_at "z"
          refine s_rAll (List.replicate ys.length true) (SqL.of hl) (by rw [r, List.map_replicate]; simp) ?_
          exact ev_blT (by simp) (k _ (by walk_at "zex"))
      | tup hx rx =>
        rename_i a xs ds
        cases dy with
        | tup hy ry =>
        rename_i b ys
        obtain ⟨hlen, hds⟩ := ok
        have l1 := dpAll_len rx
        have l2 := dpAll_len ry
        walk_at "z"
        refine ite_pos (by omega) ?_
        walk_at "z"
        rename_i H1 _ e1 _
        refine c_range (by omega) (fun D H' => H1 D = none ∧ Ex H1 H') (fun D i l H' => l = List.replicate i (.bl true)) (fun D H' n e _ => ⟨⟨n, e⟩, rfl⟩) (fun D i l H2 hi e2 hl hz r => ?_) (fun D l H2 e2 hl hz r => ?_)
        · obtain ⟨nD, e2⟩ := e2
          have i1 : i < xs.length := by omega
          have i2 : i < ys.length := by omega
          have i3 : i < ds.length := by omega
          walk_at "z"
          refine ⟨rfl, ?_⟩
          walk_at "z"
          refine Or.inr (Or.inl ⟨_, _, _, _, rfl, rfl, (Ex.sqT (by walk_at "zex") hx), atI_nat (List.getElem?_eq_getElem i1), ?_⟩)
          walk_at "z"
          refine Or.inr (Or.inl ⟨_, _, _, _, rfl, rfl, (Ex.sqT (by walk_at "zex") hy), atI_nat (List.getElem?_eq_getElem i2), ?_⟩)
          walk_at "z"
          refine ⟨_, _, ds[i], rfl, dp_ex (by walk_at "zex") (dpAll_get rx (List.getElem?_eq_getElem i1) (List.getElem?_eq_getElem i3)), dp_ex (by walk_at "zex") (dpAll_get ry (List.getElem?_eq_getElem i2) (List.getElem?_eq_getElem i3)), hds _ (List.getElem_mem i3), fun H3 e3 => ?_⟩
          exact c_put (e3 _ _ hl) (by omega) fun H5 f5 _ => ⟨⟨nD, fun q o hq => f5 _ _ (ne_of_none hq nD) (e3 _ _ (e2 _ _ hq))⟩, by rw [r, List.replicate_succ']⟩
        · obtain ⟨nD, e2⟩ := e2
          walk_at "z"
          refine s_rAll (List.replicate ys.length true) (SqL.of hl) (by rw [r, List.map_replicate]; simp) ?_
          exact ev_blT (by simp) (k _ (by walk_at "zex"))

/-! facts as data -/
inductive Arg where
  | i (n : Int)
  | t (l : List Int)
def Arg.enc : Arg → PyData
  | .i n => .int n
  | .t l => .tuple (l.map PyData.int)
structure Fct where
  w : Str
  xs : List Arg
def Fct.enc (f : Fct) : PyData := .tuple (.str f.w :: f.xs.map Arg.enc)
def Rising (l : List Int) : Prop := l.Pairwise (· < ·)
inductive GF : Fct → Prop
  | toll {g d h : Int} : R 0 7 g → R 0 999 d → R 0 48 h → GF ⟨"toll", [.i g, .i d, .i h]⟩
  | board {g d : Int} {gs : List Int} : R 0 7 g → R 0 999 d → Rising gs → (∀ x ∈ gs, R 0 7 x) → GF ⟨"board", [.i g, .i d, .t gs]⟩
  | trust {g d t : Int} : R 0 7 g → R 0 999 d → R 0 3 t → GF ⟨"trust", [.i g, .i d, .i t]⟩
  | folk {c a b : Int} : R 0 9 c → R 0 999 a → R 0 999 b → GF ⟨"folk", [.i c, .i a, .i b]⟩
  | bargain {g c a b : Int} : R 0 7 g → R 0 9 c → R 0 999 a → R 0 999 b → GF ⟨"bargain", [.i g, .i c, .i a, .i b]⟩
  | pass {d m g c h : Int} : R 0 999 d → R 0 1439 m → R 0 7 g → R 0 9 c → R 1 8 h → GF ⟨"pass", [.i d, .i m, .i g, .i c, .i h]⟩
  | lost {n m : Int} : 1 ≤ n → R 0 1439 m → GF ⟨"lost", [.i n, .i m]⟩
  | paid {c d h : Int} : R 0 9 c → R 0 999 d → R 0 100000 h → GF ⟨"paid", [.i c, .i d, .i h]⟩
def spFct (K : PySem.W.Frag) : Sp := fun vs H Q _ => ∃ b c : Addr, vs = [.ref b] ∧ Bag H b c ∧ ∀ v f H', GF f → Dp K H' v f.enc → Bag H' b c → Fr b H H' → Q v H'
theorem b01 (c : Bool) : (if c = true then (1 : Int) else 0) = 1 ∨ (if c = true then (1 : Int) else 0) = 0 := by cases c <;> simp
theorem i4 {z : Int} (h0 : 0 ≤ z) (h1 : z < 4) : z = 0 ∨ z = 1 ∨ z = 2 ∨ z = 3 := by omega
theorem i3 {z : Int} (h0 : 0 ≤ z) (h1 : z < 3) : z = 0 ∨ z = 1 ∨ z = 2 := by omega
theorem i2 {z : Int} (h0 : 0 ≤ z) (h1 : z < 2) : z = 0 ∨ z = 1 := by omega
theorem sc_l_gate : FnScope ["_law_bag_here"] ["_law_bag_here"] (defScope s_l_gate) :=
  ⟨rfl, rfl, rfl, by decide +kernel, rfl, by decide +kernel, by decide +kernel⟩
theorem ok_l_gate (T : Tx K mg) : FnOk P w K mg base CX0 2 T.f_l_gate T.d_l_gate ["_law_bag_here"] (spInt 0 7) := by
  refine T.F_l_gate.ok sc_l_gate (fun vs H Q E h => ?_) (fun cdv A outer s H vs Q E hr h => ?_)
  · obtain ⟨b, c, rfl, _⟩ := h
    rfl
  · obtain ⟨b, c, rfl, B, k⟩ := h
    refine ⟨_, (pss_one (ps_ret (pe_call (ok_l_pull T) (hr.mono (by decide)) rfl T.g_l_pull T.F_l_pull.kp T.b_l_pull .nil pass0 (pa_cons (pv 0) (pa_cons (pe_ix (r := rIxT K) ix_tup (pe_tup (pa_cons pe_int (pa_cons pe_int pa_nil))) (pe_callTy cz_int1 (by rfl) T.z_int (by decide +kernel) (pa_cons (pe_cmpR op_eq (pe_call (ok_l_pull T) (hr.mono (by decide)) rfl T.g_l_pull T.F_l_pull.kp T.b_l_pull .nil pass0 (pa_cons (pv 0) (pa_cons pe_int pa_nil))) pe_int (nomark _)) pa_nil)) (fun _ _ => rfl)) pa_nil))))), ?_⟩
    refine at_start (ρ' := [some _]) rfl ?_
    walk_at "z0"
    walk_at "z"
    refine s_ixPT (IntIn 4 8) (by walk_at "zsq") (by split <;> decide) (by walk_at "zin") fun v ⟨n, e, hn⟩ => ?_
    subst e
    obtain ⟨n0, n1⟩ := hn
    walk_at "z"
    exact k _ _ (by assumption) (by omega) (by walk_at "zbag") (by walk_at "zfr")
theorem sc_l_day : FnScope ["_law_bag_here", "_law_some"] ["_law_bag_here"] (defScope s_l_day) :=
  ⟨rfl, rfl, rfl, by decide +kernel, rfl, by decide +kernel, by decide +kernel⟩
theorem ok_l_day (T : Tx K mg) : FnOk P w K mg base CX0 2 T.f_l_day T.d_l_day ["_law_bag_here"] (spInt 0 999) := by
  refine T.F_l_day.ok sc_l_day (fun vs H Q E h => ?_) (fun cdv A outer s H vs Q E hr h => ?_)
  · obtain ⟨b, c, rfl, _⟩ := h
    rfl
  · obtain ⟨b, c, rfl, B, k⟩ := h
    refine ⟨_, (pss_cons (ps_set (i := 1) sc_l_day.nd rfl (Or.inl rfl) (pe_ix (r := rIxL K) ix_list (pe_lst (pa_cons pe_int (pa_cons pe_int (pa_cons pe_int (pa_cons pe_int pa_nil))))) (pe_call (ok_l_pull T) (hr.mono (by decide)) rfl T.g_l_pull T.F_l_pull.kp T.b_l_pull .nil pass0 (pa_cons (pv 0) (pa_cons pe_int pa_nil))) (fun _ _ => rfl))) (pss_one (ps_ret (pe_ix (r := rIxL K) ix_list (pe_lst (pa_cons (pe_call (ok_l_pull T) (hr.mono (by decide)) rfl T.g_l_pull T.F_l_pull.kp T.b_l_pull .nil pass0 (pa_cons (pv 0) (pa_cons pe_int pa_nil))) (pa_cons (pv 1) (pa_cons (pe_op op_add pe_int (pe_call (ok_l_pull T) (hr.mono (by decide)) rfl T.g_l_pull T.F_l_pull.kp T.b_l_pull .nil pass0 (pa_cons (pv 0) (pa_cons pe_int pa_nil)))) (pa_cons (pe_call (ok_l_pull T) (hr.mono (by decide)) rfl T.g_l_pull T.F_l_pull.kp T.b_l_pull .nil pass0 (pa_cons (pv 0) (pa_cons pe_int pa_nil))) pa_nil))))) (pe_call (ok_l_pull T) (hr.mono (by decide)) rfl T.g_l_pull T.F_l_pull.kp T.b_l_pull .nil pass0 (pa_cons (pv 0) (pa_cons pe_int pa_nil))) (fun _ _ => rfl))))), ?_⟩
    refine at_start (ρ' := [some _, none]) rfl ?_
    walk_at "z0"
    walk_at "z"
    refine s_ixP (IntIn 0 999) (by walk_at "zsq") ⟨by assumption, by assumption⟩ (by walk_at "zin") fun v ⟨n, e, hn⟩ => ?_
    subst e
    obtain ⟨n0, n1⟩ := hn
    walk_at "z"
    refine s_ixP (IntIn 0 999) (by walk_at "zsq") ⟨by assumption, by assumption⟩ (by walk_at "zin") fun v ⟨m, e, hm⟩ => ?_
    subst e
    exact k _ _ hm.1 hm.2 (by walk_at "zbag") (by walk_at "zfr")

theorem dp_ints {K : PySem.W.Frag} {H : Hp} : ∀ l : List Int, DpAll K H (l.map V.int) (l.map PyData.int)
  | [] => .nil
  | _ :: l => .cons (.int _) (dp_ints l)
theorem use_fct {K : PySem.W.Frag} {H : Hp} {b c : Addr} {Q : VK} {E : XK} (B : Bag H b c) (k : ∀ v f H', GF f → Dp K H' v f.enc → Bag H' b c → Fr b H H' → Q v H') : spFct K ([.ref b] ++ []) H Q E := ⟨b, c, rfl, B, k⟩
theorem sc_l_passing : FnScope ["_law_bag_here", "_law_minute", "_law_carriage"] ["_law_bag_here"] (defScope s_l_passing) :=
  ⟨rfl, rfl, rfl, by decide +kernel, rfl, by decide +kernel, by decide +kernel⟩
theorem ok_l_passing (T : Tx K mg) : FnOk P w K mg base CX0 3 T.f_l_passing T.d_l_passing ["_law_bag_here"] (spFct K) := by
  refine T.F_l_passing.ok sc_l_passing (fun vs H Q E h => ?_) (fun cdv A outer s H vs Q E hr h => ?_)
  · obtain ⟨b, c, rfl, _⟩ := h
    rfl
  · obtain ⟨b, c, rfl, B, k⟩ := h
    refine ⟨_, (pss_cons (ps_set (i := 1) sc_l_passing.nd rfl (Or.inl rfl) (pe_ix (r := rIxL K) ix_list (pe_lst (pa_cons (pe_call (ok_l_pull T) (hr.mono (by decide)) rfl T.g_l_pull T.F_l_pull.kp T.b_l_pull .nil pass0 (pa_cons (pv 0) (pa_cons pe_int pa_nil))) (pa_cons (pe_call (ok_l_pull T) (hr.mono (by decide)) rfl T.g_l_pull T.F_l_pull.kp T.b_l_pull .nil pass0 (pa_cons (pv 0) (pa_cons pe_int pa_nil))) (pa_cons pe_int pa_nil)))) (pe_call (ok_l_pull T) (hr.mono (by decide)) rfl T.g_l_pull T.F_l_pull.kp T.b_l_pull .nil pass0 (pa_cons (pv 0) (pa_cons pe_int pa_nil))) (fun _ _ => rfl))) (pss_cons (ps_set (i := 2) sc_l_passing.nd rfl (Or.inl rfl) (pe_call (ok_l_pull T) (hr.mono (by decide)) rfl T.g_l_pull T.F_l_pull.kp T.b_l_pull .nil pass0 (pa_cons (pv 0) (pa_cons (pe_ix (r := rIxT K) ix_tup (pe_tup (pa_cons pe_int (pa_cons pe_int pa_nil))) (pe_callTy cz_int1 (by rfl) T.z_int (by decide +kernel) (pa_cons (pe_cmpR op_eq (pe_call (ok_l_pull T) (hr.mono (by decide)) rfl T.g_l_pull T.F_l_pull.kp T.b_l_pull .nil pass0 (pa_cons (pv 0) (pa_cons pe_int pa_nil))) pe_int (nomark _)) pa_nil)) (fun _ _ => rfl)) pa_nil)))) (pss_one (ps_ret (pe_tup (pa_cons pe_str (pa_cons (pe_call (ok_l_day T) (hr.mono (by decide)) rfl T.g_l_day T.F_l_day.kp T.b_l_day .nil pass0 (pa_cons (pv 0) pa_nil)) (pa_cons (pv 1) (pa_cons (pe_call (ok_l_gate T) (hr.mono (by decide)) rfl T.g_l_gate T.F_l_gate.kp T.b_l_gate .nil pass0 (pa_cons (pv 0) pa_nil)) (pa_cons (pv 2) (pa_cons (pe_op op_add pe_int (pe_call (ok_l_pull T) (hr.mono (by decide)) rfl T.g_l_pull T.F_l_pull.kp T.b_l_pull .nil pass0 (pa_cons (pv 0) (pa_cons pe_int pa_nil)))) pa_nil))))))))))), ?_⟩
    refine at_start (ρ' := [some _, none, none]) rfl ?_
    walk_at "z0"
    walk_at "z"
    refine s_ixP (IntIn 0 1439) (by walk_at "zsq") ⟨by assumption, by assumption⟩ (by walk_at "zin") fun v ⟨m, e, m0, m1⟩ => ?_
    subst e
    walk_at "z"
    refine s_ixPT (IntIn 3 10) (by walk_at "zsq") (by split <;> decide) (by walk_at "zin") fun v ⟨n, e, n0, n1⟩ => ?_
    subst e
    walk_at "z"
    rename_i ca _ _ _ _ _ d _ _ _ _ _ g _ _ _ _ _ h _ _ _ _ _ t H1 _ _ ht
    exact k _ ⟨"pass", [.i d, .i m, .i g, .i ca, .i (1 + h)]⟩ _ (.pass ⟨by omega, by omega⟩ ⟨m0, m1⟩ ⟨by omega, by omega⟩ ⟨by omega, by omega⟩ ⟨by omega, by omega⟩) (.tup (SqT.of ht) (by walk_at "zdp")) (by walk_at "zbag") (by walk_at "zfr")
def spStretch (K : PySem.W.Frag) : Sp := fun vs H Q _ => ∃ b c : Addr, vs = [.ref b] ∧ Bag H b c ∧ ∀ t x y H', R 0 999 x → R 0 999 y → H' t = some (.tup [.int x, .int y]) → Bag H' b c → Fr b H H' → Q (.ref t) H'
theorem use_stretch {K : PySem.W.Frag} {H : Hp} {b c : Addr} {Q : VK} {E : XK} (B : Bag H b c) (k : ∀ t x y H', R 0 999 x → R 0 999 y → H' t = some (.tup [.int x, .int y]) → Bag H' b c → Fr b H H' → Q (.ref t) H') : spStretch K ([.ref b] ++ []) H Q E := ⟨b, c, rfl, B, k⟩
theorem sc_l_stretch : FnScope ["_law_bag_here", "_law_first"] ["_law_bag_here"] (defScope s_l_stretch) :=
  ⟨rfl, rfl, rfl, by decide +kernel, rfl, by decide +kernel, by decide +kernel⟩
theorem ok_l_stretch (T : Tx K mg) : FnOk P w K mg base CX0 3 T.f_l_stretch T.d_l_stretch ["_law_bag_here"] (spStretch K) := by
  refine T.F_l_stretch.ok sc_l_stretch (fun vs H Q E h => ?_) (fun cdv A outer s H vs Q E hr h => ?_)
  · obtain ⟨b, c, rfl, _⟩ := h
    rfl
  · obtain ⟨b, c, rfl, B, k⟩ := h
    refine ⟨_, (pss_cons (ps_set (i := 1) sc_l_stretch.nd rfl (Or.inl rfl) (pe_call (ok_l_day T) (hr.mono (by decide)) rfl T.g_l_day T.F_l_day.kp T.b_l_day .nil pass0 (pa_cons (pv 0) pa_nil))) (pss_one (ps_ret (pe_tup (pa_cons (pv 1) (pa_cons (pe_op op_mod (pe_ix (r := rIxL K) ix_list (pe_lst (pa_cons (pv 1) (pa_cons pe_int (pa_cons (pe_op op_add (pv 1) (pe_call (ok_l_pull T) (hr.mono (by decide)) rfl T.g_l_pull T.F_l_pull.kp T.b_l_pull .nil pass0 (pa_cons (pv 0) (pa_cons pe_int pa_nil)))) (pa_cons (pe_call (ok_l_day T) (hr.mono (by decide)) rfl T.g_l_day T.F_l_day.kp T.b_l_day .nil pass0 (pa_cons (pv 0) pa_nil)) pa_nil))))) (pe_call (ok_l_pull T) (hr.mono (by decide)) rfl T.g_l_pull T.F_l_pull.kp T.b_l_pull .nil pass0 (pa_cons (pv 0) (pa_cons pe_int pa_nil))) (fun _ _ => rfl)) pe_int) pa_nil)))))), ?_⟩
    refine at_start (ρ' := [some _, none]) rfl ?_
    walk_at "z0"
    walk_at "z"
    refine s_ixP (IntIn 0 2000) (by walk_at "zsq") ⟨by assumption, by assumption⟩ (by walk_at "zin") fun v ⟨m, e, m0, m1⟩ => ?_
    subst e
    walk_at "z"
    rename_i t H1 _ _ ht
    exact k _ _ _ _ ⟨by assumption, by assumption⟩ ⟨by omega, by omega⟩ ht (by walk_at "zbag") (by walk_at "zfr")
theorem sc_l_board : FnScope ["_law_bag_here", "_law_gates", "_law_gate_here"] ["_law_bag_here"] (defScope s_l_board) :=
  ⟨rfl, rfl, rfl, by decide +kernel, rfl, by decide +kernel, by decide +kernel⟩
theorem ok_l_board (T : Tx K mg) : FnOk P w K mg base CX0 3 T.f_l_board T.d_l_board ["_law_bag_here"] (spFct K) := by
  refine T.F_l_board.ok sc_l_board (fun vs H Q E h => ?_) (fun cdv A outer s H vs Q E hr h => ?_)
  · obtain ⟨b, c, rfl, _⟩ := h
    rfl
  · obtain ⟨b, c, rfl, B, k⟩ := h
    refine ⟨_, (pss_cons (ps_set (i := 1) sc_l_board.nd rfl (Or.inl rfl) (pe_callTy (r := rTupleOf K) cz_tupleOf (by rfl) T.z_tuple (by decide +kernel) (pa_cons (pe_lc (own := [("_law_gate_here", 2)]) (by rfl) sc_l_board.nd (pi_range1 (by rfl) T.z_range (pa_cons pe_int pa_nil)) (blkOk_by (own := [("_law_gate_here", 2)]) (N := ["_law_bag_here", "_law_gates", "_law_gate_here"]) (sc := defScope s_l_board) (by decide +kernel)) (fun _ _ _ _ _ => (pg_name (i := 2) sc_l_board.nd rfl (Or.inl rfl))) (fun _ _ _ _ _ => (pts_one (pt_cmpR op_eq (pe_call (ok_l_pull T) (hr.mono (by decide)) rfl T.g_l_pull T.F_l_pull.kp T.b_l_pull .nil pass0 (pa_cons (pv 0) (pa_cons pe_int pa_nil))) pe_int (nomark _)))) (fun _ _ _ _ _ => (pv 2))) pa_nil))) (pss_one (ps_ret (pe_tup (pa_cons pe_str (pa_cons (pe_call (ok_l_gate T) (hr.mono (by decide)) rfl T.g_l_gate T.F_l_gate.kp T.b_l_gate .nil pass0 (pa_cons (pv 0) pa_nil)) (pa_cons (pe_call (ok_l_day T) (hr.mono (by decide)) rfl T.g_l_day T.F_l_day.kp T.b_l_day .nil pass0 (pa_cons (pv 0) pa_nil)) (pa_cons (pv 1) pa_nil)))))))), ?_⟩
    refine at_start (ρ' := [some _, none, none]) rfl ?_
    walk_at "z0"
    walk_at "z"
    refine c_range (by decide) (fun D H' => D ≠ b ∧ D ≠ c ∧ H D = none ∧ Bag H' b c ∧ Fr b H H') (fun D i l H' => ∃ gs : List Int, l = gs.map V.int ∧ Rising gs ∧ ∀ x ∈ gs, R 0 (i - 1) x) (fun D H' n e _ => ⟨⟨B.neb n, B.nec n, n, B.ext e, e.fr b⟩, [], rfl, List.Pairwise.nil, fun _ h => by cases h⟩) (fun D i l H1 hi Iv hl hz r => ?_) (fun D l H1 Iv hl hz r => ?_)
    · obtain ⟨nb, nc, nD, B1, f1⟩ := Iv
      obtain ⟨gs, rfl, hr, hb⟩ := r
      walk_at "z"
      refine ⟨rfl, ?_⟩
      walk_at "z"
      refine ite_dec (fun h0 => ?_) (fun h0 => ?_)
      · walk_at "z"
        refine c_put (by walk_at "zhp") (by omega) fun H5 f5 _ => ⟨⟨nb, nc, nD, Bag.frs (by assumption) nb nc f5, ?_⟩, gs ++ [(i : Int)], by rw [List.map_append]; rfl, ?_, ?_⟩
        · exact fun a o n h => f5 a o (ne_of_none h nD) ((f1.trans (by assumption)) a o n h)
        · refine List.pairwise_append.mpr ⟨hr, List.pairwise_singleton _ _, fun x hx y hy => ?_⟩
          rw [List.mem_singleton] at hy
          have := (hb x hx).2
          omega
        · intro x hx
          rcases List.mem_append.mp hx with hx | hx
          · have := hb x hx
            exact ⟨this.1, by have := this.2; omega⟩
          · rw [List.mem_singleton] at hx
            exact ⟨by omega, by omega⟩
      · walk_at "z"
        refine c_skip (by walk_at "zhp") hz ⟨nb, nc, nD, by assumption, f1.trans (by assumption)⟩ ⟨gs, rfl, hr, fun x hx => ?_⟩
        have := hb x hx
        exact ⟨this.1, by have := this.2; omega⟩
    · obtain ⟨nb, nc, nD, B1, f1⟩ := Iv
      obtain ⟨gs, rfl, hr, hb⟩ := r
      walk_at "z"
      rename_i q H2 _ e2 hq g H3 g0 g1 B3 f3 d H4 d0 d1 B4 f4 t H5 _ e5 ht
      have qb : q ≠ b := B1.neb (by assumption)
      have hq5 := e5 _ _ (f4 _ _ qb (f3 _ _ qb hq))
      exact k _ ⟨"board", [.i g, .i d, .t gs]⟩ _ (.board ⟨by omega, by omega⟩ ⟨by omega, by omega⟩ hr fun x hx => by
        have h := hb x hx
        exact ⟨h.1, by have := h.2; omega⟩) (.tup (SqT.of ht) (.cons (.str _) (.cons (.int _) (.cons (.int _) (.cons (.tup (SqT.of hq5) (dp_ints _)) .nil))))) (by walk_at "zbag") (by walk_at "zfr")
def spFact (K : PySem.W.Frag) : Sp := fun vs H Q _ => ∃ (b c : Addr) (n : Int), vs = [.ref b, .int n] ∧ 0 ≤ n ∧ n ≤ 1000 ∧ Bag H b c ∧ ∀ v f H', GF f → Dp K H' v f.enc → Bag H' b c → Fr b H H' → Q v H'
theorem dp_two {K : PySem.W.Frag} {H : Hp} {v : V} {d e : PyData} (h : DpAll K H [v] [d, e]) : False := by
  cases h with
  | cons _ r => cases r
theorem sc_l_fact : FnScope ["_law_bag_here", "_law_amount", "_law_turn", "_law_coins"] ["_law_bag_here", "_law_amount"] (defScope s_l_fact) :=
  ⟨rfl, rfl, rfl, by decide +kernel, rfl, by decide +kernel, by decide +kernel⟩
theorem ok_l_fact (T : Tx K mg) : FnOk P w K mg base CX0 4 T.f_l_fact T.d_l_fact ["_law_bag_here", "_law_amount"] (spFact K) := by
  refine T.F_l_fact.ok sc_l_fact (fun vs H Q E h => ?_) (fun cdv A outer s H vs Q E hr h => ?_)
  · obtain ⟨b, c, n, rfl, _⟩ := h
    rfl
  · obtain ⟨b, c, n, rfl, n0, n1, B, k⟩ := h
    refine ⟨_, (pss_cons (ps_set (i := 2) sc_l_fact.nd rfl (Or.inl rfl) (pe_call (ok_l_pull T) (hr.mono (by decide)) rfl T.g_l_pull T.F_l_pull.kp T.b_l_pull .nil pass0 (pa_cons (pv 0) (pa_cons pe_int pa_nil)))) (pss_cons (ps_if (pt_cmpR op_lt (pv 2) pe_int (nomark _)) (pss_one (ps_ret (pe_call (ok_l_passing T) (hr.mono (by decide)) rfl T.g_l_passing T.F_l_passing.kp T.b_l_passing .nil pass0 (pa_cons (pv 0) pa_nil)))) pss_nil) (pss_cons (ps_if (pt_cmpR op_lt (pv 2) pe_int (nomark _)) (pss_one (ps_ret (pe_tup (pa_cons pe_str (pa_cons (pe_call (ok_l_gate T) (hr.mono (by decide)) rfl T.g_l_gate T.F_l_gate.kp T.b_l_gate .nil pass0 (pa_cons (pv 0) pa_nil)) (pa_cons (pe_call (ok_l_day T) (hr.mono (by decide)) rfl T.g_l_day T.F_l_day.kp T.b_l_day .nil pass0 (pa_cons (pv 0) pa_nil)) (pa_cons (pe_call (ok_l_pull T) (hr.mono (by decide)) rfl T.g_l_pull T.F_l_pull.kp T.b_l_pull .nil pass0 (pa_cons (pv 0) (pa_cons pe_int pa_nil))) pa_nil))))))) pss_nil) (pss_cons (ps_if (pt_cmpR op_lt (pv 2) pe_int (nomark _)) (pss_one (ps_ret (pe_call (ok_l_board T) (hr.mono (by decide)) rfl T.g_l_board T.F_l_board.kp T.b_l_board .nil pass0 (pa_cons (pv 0) pa_nil)))) pss_nil) (pss_cons (ps_if (pt_cmpR op_lt (pv 2) pe_int (nomark _)) (pss_one (ps_ret (pe_tup (pa_cons pe_str (pa_cons (pe_call (ok_l_gate T) (hr.mono (by decide)) rfl T.g_l_gate T.F_l_gate.kp T.b_l_gate .nil pass0 (pa_cons (pv 0) pa_nil)) (pa_cons (pe_call (ok_l_day T) (hr.mono (by decide)) rfl T.g_l_day T.F_l_day.kp T.b_l_day .nil pass0 (pa_cons (pv 0) pa_nil)) (pa_cons (pe_call (ok_l_pull T) (hr.mono (by decide)) rfl T.g_l_pull T.F_l_pull.kp T.b_l_pull .nil pass0 (pa_cons (pv 0) (pa_cons pe_int pa_nil))) pa_nil))))))) pss_nil) (pss_cons (ps_if (pt_cmpR op_lt (pv 2) pe_int (nomark _)) (pss_one (ps_ret (pe_op (r := rCatA K) op_catA (pe_tup (pa_cons pe_str (pa_cons (pe_call (ok_l_pull T) (hr.mono (by decide)) rfl T.g_l_pull T.F_l_pull.kp T.b_l_pull .nil pass0 (pa_cons (pv 0) (pa_cons pe_int pa_nil))) pa_nil))) (pe_call (ok_l_stretch T) (hr.mono (by decide)) rfl T.g_l_stretch T.F_l_stretch.kp T.b_l_stretch .nil pass0 (pa_cons (pv 0) pa_nil))))) pss_nil) (pss_cons (ps_if (pt_cmpR op_lt (pv 2) pe_int (nomark _)) (pss_one (ps_ret (pe_op (r := rCatA K) op_catA (pe_tup (pa_cons pe_str (pa_cons (pe_call (ok_l_gate T) (hr.mono (by decide)) rfl T.g_l_gate T.F_l_gate.kp T.b_l_gate .nil pass0 (pa_cons (pv 0) pa_nil)) (pa_cons (pe_call (ok_l_pull T) (hr.mono (by decide)) rfl T.g_l_pull T.F_l_pull.kp T.b_l_pull .nil pass0 (pa_cons (pv 0) (pa_cons pe_int pa_nil))) pa_nil)))) (pe_call (ok_l_stretch T) (hr.mono (by decide)) rfl T.g_l_stretch T.F_l_stretch.kp T.b_l_stretch .nil pass0 (pa_cons (pv 0) pa_nil))))) pss_nil) (pss_cons (ps_if (pt_cmpR op_lt (pv 2) pe_int (nomark _)) (pss_one (ps_ret (pe_tup (pa_cons pe_str (pa_cons (pe_op op_add pe_int (pe_call (ok_l_pull T) (hr.mono (by decide)) rfl T.g_l_pull T.F_l_pull.kp T.b_l_pull .nil pass0 (pa_cons (pv 0) (pa_cons (pe_op op_add (pv 1) pe_int) pa_nil)))) (pa_cons (pe_ix (r := rIxL K) ix_list (pe_lst (pa_cons pe_int (pa_cons (pe_call (ok_l_pull T) (hr.mono (by decide)) rfl T.g_l_pull T.F_l_pull.kp T.b_l_pull .nil pass0 (pa_cons (pv 0) (pa_cons pe_int pa_nil))) (pa_cons pe_int pa_nil)))) (pe_call (ok_l_pull T) (hr.mono (by decide)) rfl T.g_l_pull T.F_l_pull.kp T.b_l_pull .nil pass0 (pa_cons (pv 0) (pa_cons pe_int pa_nil))) (fun _ _ => rfl)) pa_nil)))))) pss_nil) (pss_cons (ps_set (i := 3) sc_l_fact.nd rfl (Or.inl rfl) (pe_ix (r := rIxL K) ix_list (pe_lst (pa_cons (pe_call (ok_l_pull T) (hr.mono (by decide)) rfl T.g_l_pull T.F_l_pull.kp T.b_l_pull .nil pass0 (pa_cons (pv 0) (pa_cons pe_int pa_nil))) (pa_cons (pe_call (ok_l_pull T) (hr.mono (by decide)) rfl T.g_l_pull T.F_l_pull.kp T.b_l_pull .nil pass0 (pa_cons (pv 0) (pa_cons pe_int pa_nil))) (pa_cons (pe_op op_add pe_int (pe_call (ok_l_pull T) (hr.mono (by decide)) rfl T.g_l_pull T.F_l_pull.kp T.b_l_pull .nil pass0 (pa_cons (pv 0) (pa_cons pe_int pa_nil)))) pa_nil)))) (pe_call (ok_l_pull T) (hr.mono (by decide)) rfl T.g_l_pull T.F_l_pull.kp T.b_l_pull .nil pass0 (pa_cons (pv 0) (pa_cons pe_int pa_nil))) (fun _ _ => rfl))) (pss_one (ps_ret (pe_tup (pa_cons pe_str (pa_cons (pe_call (ok_l_pull T) (hr.mono (by decide)) rfl T.g_l_pull T.F_l_pull.kp T.b_l_pull .nil pass0 (pa_cons (pv 0) (pa_cons (pe_ix (r := rIxT K) ix_tup (pe_tup (pa_cons pe_int (pa_cons pe_int pa_nil))) (pe_callTy cz_int1 (by rfl) T.z_int (by decide +kernel) (pa_cons (pe_cmpR op_eq (pe_call (ok_l_pull T) (hr.mono (by decide)) rfl T.g_l_pull T.F_l_pull.kp T.b_l_pull .nil pass0 (pa_cons (pv 0) (pa_cons pe_int pa_nil))) pe_int (nomark _)) pa_nil)) (fun _ _ => rfl)) pa_nil))) (pa_cons (pe_call (ok_l_day T) (hr.mono (by decide)) rfl T.g_l_day T.F_l_day.kp T.b_l_day .nil pass0 (pa_cons (pv 0) pa_nil)) (pa_cons (pv 3) pa_nil)))))))))))))))), ?_⟩
    refine at_start (ρ' := [some _, some _, none, none]) rfl ?_
    walk_at "z0"
    walk_at "z"
    refine ite_dec (fun h1 => ?_) (fun h1 => ?_)
    · walk_at "z"
      refine use_fct (by assumption) fun v f H' gf dv B' f' => k v f H' gf dv B' (by walk_at "zfr")
    walk_at "z"
    refine ite_dec (fun h2 => ?_) (fun h2 => ?_)
    · walk_at "z"
      rename_i g _ _ _ _ _ d _ _ _ _ _ h _ _ _ _ _ t _ _ _ ht
      exact k _ ⟨"toll", [.i g, .i d, .i h]⟩ _ (.toll ⟨by omega, by omega⟩ ⟨by omega, by omega⟩ ⟨by omega, by omega⟩) (.tup (SqT.of ht) (by walk_at "zdp")) (by walk_at "zbag") (by walk_at "zfr")
    walk_at "z"
    refine ite_dec (fun h3 => ?_) (fun h3 => ?_)
    · walk_at "z"
      refine use_fct (by assumption) fun v f H' gf dv B' f' => k v f H' gf dv B' (by walk_at "zfr")
    walk_at "z"
    refine ite_dec (fun h4 => ?_) (fun h4 => ?_)
    · walk_at "z"
      rename_i g _ _ _ _ _ d _ _ _ _ _ h _ _ _ _ _ t _ _ _ ht
      exact k _ ⟨"trust", [.i g, .i d, .i h]⟩ _ (.trust ⟨by omega, by omega⟩ ⟨by omega, by omega⟩ ⟨by omega, by omega⟩) (.tup (SqT.of ht) (by walk_at "zdp")) (by walk_at "zbag") (by walk_at "zfr")
    walk_at "z"
    refine ite_dec (fun h5 => ?_) (fun h5 => ?_)
    · walk_at "z"
      refine use_stretch (by walk_at "zbag") fun t x y H5 hx hy ht B5 f5 => ?_
      refine s_catA (by walk_at "zsq") (SqT.of ht) (by simp) (by simp) (sz (by simp)) ?_
      refine s_new fun q H6 nq e6 hq => ?_
      exact k _ ⟨"folk", [.i _, .i x, .i y]⟩ _ (.folk ⟨by assumption, by omega⟩ hx hy) (.tup (SqT.of hq) (by walk_at "zdp")) (by walk_at "zbag") (by walk_at "zfr")
    walk_at "z"
    refine ite_dec (fun h6 => ?_) (fun h6 => ?_)
    · walk_at "z"
      rename_i g _ _ _ _ _ ca _ _ _ _ _ p _ _ _ hp
      refine use_stretch (by walk_at "zbag") fun t x y H5 hx hy ht B5 f5 => ?_
      refine s_catA (SqT.of (by walk_at "zhp")) (SqT.of ht) (by simp) (by simp) (sz (by simp)) ?_
      refine s_new fun q H6 nq e6 hq => ?_
      exact k _ ⟨"bargain", [.i g, .i ca, .i x, .i y]⟩ _ (.bargain ⟨by omega, by omega⟩ ⟨by omega, by omega⟩ hx hy) (.tup (SqT.of hq) (by walk_at "zdp")) (by walk_at "zbag") (by walk_at "zfr")
    walk_at "z"
    refine ite_dec (fun h7 => ?_) (fun h7 => ?_)
    · walk_at "z"
      rename_i nn Hn nn0 nn1 _ _ mi Hm _ _ _ _ pl Hl _ _ _ ix Hi _ _ _ _
      refine s_ixP (IntIn 0 1439) (by walk_at "zsq") ⟨by assumption, by assumption⟩ (by walk_at "zin") fun v ⟨m, e, m0, m1⟩ => ?_
      subst e
      walk_at "z"
      rename_i t _ _ _ ht
      exact k _ ⟨"lost", [.i (1 + nn), .i m]⟩ _ (.lost (by omega) ⟨m0, m1⟩) (.tup (SqT.of ht) (by walk_at "zdp")) (by walk_at "zbag") (by walk_at "zfr")
    walk_at "z"
    refine s_ixP (IntIn 0 100000) (by walk_at "zsq") ⟨by assumption, by assumption⟩ (by walk_at "zin") fun v ⟨m, e, m0, m1⟩ => ?_
    subst e
    walk_at "z"
    refine s_ixPT (IntIn 3 10) (by walk_at "zsq") (by split <;> decide) (by walk_at "zin") fun v ⟨n, e, n0, n1⟩ => ?_
    subst e
    walk_at "z"
    rename_i ca _ _ _ _ _ d _ _ _ _ _ t _ _ _ ht
    exact k _ ⟨"paid", [.i ca, .i d, .i m]⟩ _ (.paid ⟨by omega, by omega⟩ ⟨by omega, by omega⟩ ⟨m0, m1⟩) (.tup (SqT.of ht) (by walk_at "zdp")) (by walk_at "zbag") (by walk_at "zfr")

/-! facts as they lie in the heap: tuples alone -/
theorem sqT_fr {K : PySem.W.Frag} {b a : Addr} {H H' : Hp} {xs ys : List V} (e : Fr b H H') (hb : H b = some (.lst ys)) (h : SqT K H a xs) : SqT K H' a xs := by
  rcases h with (h | ⟨o, h⟩) | h
  · exact .inl (.inl (e _ _ (ne_of h hb (fun z => by cases z)) h))
  · exact .inl (.inr ⟨o, e _ _ (ne_of h hb (fun z => by cases z)) h⟩)
  · exact .inr h
inductive FD (K : PySem.W.Frag) (H : Hp) : V → Arg → Prop
  | i (n : Int) : FD K H (.int n) (.i n)
  | t {a : Addr} {l : List Int} : SqT K H a (l.map V.int) → FD K H (.ref a) (.t l)
inductive FDs (K : PySem.W.Frag) (H : Hp) : List V → List Arg → Prop
  | nil : FDs K H [] []
  | cons {v : V} {x : Arg} {vs : List V} {xs : List Arg} : FD K H v x → FDs K H vs xs → FDs K H (v :: vs) (x :: xs)
/-- v is the fact f -/
def RF (K : PySem.W.Frag) (H : Hp) (v : V) (f : Fct) : Prop := ∃ a vs, v = .ref a ∧ SqT K H a (.str f.w :: vs) ∧ FDs K H vs f.xs
inductive RFs (K : PySem.W.Frag) (H : Hp) : List V → List (Int × Fct) → Prop
  | nil : RFs K H [] []
  | cons {p : Addr} {n : Int} {v : V} {f : Fct} {vs : List V} {fs : List (Int × Fct)} : SqT K H p [.int n, v] → RF K H v f → RFs K H vs fs → RFs K H (.ref p :: vs) ((n, f) :: fs)
section
variable {K : PySem.W.Frag} {H H' : Hp}
theorem fd_map (g : ∀ {a xs}, SqT K H a xs → SqT K H' a xs) {v : V} {x : Arg} (h : FD K H v x) : FD K H' v x := by
  cases h with
  | i n => exact .i n
  | t h => exact .t (g h)
theorem fds_map (g : ∀ {a xs}, SqT K H a xs → SqT K H' a xs) : ∀ {vs : List V} {xs : List Arg}, FDs K H vs xs → FDs K H' vs xs
  | _, _, .nil => .nil
  | _, _, .cons h r => .cons (fd_map g h) (fds_map g r)
theorem rf_map (g : ∀ {a xs}, SqT K H a xs → SqT K H' a xs) {v : V} {f : Fct} (h : RF K H v f) : RF K H' v f := by
  obtain ⟨a, vs, e, h1, h2⟩ := h
  exact ⟨a, vs, e, g h1, fds_map g h2⟩
theorem rfs_map (g : ∀ {a xs}, SqT K H a xs → SqT K H' a xs) : ∀ {vs : List V} {fs : List (Int × Fct)}, RFs K H vs fs → RFs K H' vs fs
  | _, _, .nil => .nil
  | _, _, .cons h q r => .cons (g h) (rf_map g q) (rfs_map g r)
theorem rf_ex (e : Ex H H') {v : V} {f : Fct} (h : RF K H v f) : RF K H' v f := rf_map (fun z => e.sqT z) h
theorem rfs_ex (e : Ex H H') {vs : List V} {fs : List (Int × Fct)} (h : RFs K H vs fs) : RFs K H' vs fs := rfs_map (fun z => e.sqT z) h
theorem rf_fr {b : Addr} {ys : List V} (e : Fr b H H') (hb : H b = some (.lst ys)) {v : V} {f : Fct} (h : RF K H v f) : RF K H' v f := rf_map (fun z => sqT_fr e hb z) h
theorem rfs_fr {b : Addr} {ys : List V} (e : Fr b H H') (hb : H b = some (.lst ys)) {vs : List V} {fs : List (Int × Fct)} (h : RFs K H vs fs) : RFs K H' vs fs := rfs_map (fun z => sqT_fr e hb z) h
theorem rf_pull {b c : Addr} (e : Fr b H H') (B : Bag H b c) {v : V} {f : Fct} (h : RF K H v f) : RF K H' v f := by
  obtain ⟨ys, hb⟩ := B.getb
  exact rf_fr e hb h
theorem rfs_pull {b c : Addr} (e : Fr b H H') (B : Bag H b c) {vs : List V} {fs : List (Int × Fct)} (h : RFs K H vs fs) : RFs K H' vs fs := by
  obtain ⟨ys, hb⟩ := B.getb
  exact rfs_fr e hb h
theorem rfs_snoc {p : Addr} {n : Int} {v : V} {f : Fct} (h1 : SqT K H p [.int n, v]) (h2 : RF K H v f) : ∀ {vs : List V} {fs : List (Int × Fct)}, RFs K H vs fs → RFs K H (vs ++ [.ref p]) (fs ++ [(n, f)])
  | _, _, .nil => .cons h1 h2 .nil
  | _, _, .cons a b r => .cons a b (rfs_snoc h1 h2 r)
theorem rfs_len : ∀ {vs : List V} {fs : List (Int × Fct)}, RFs K H vs fs → vs.length = fs.length
  | _, _, .nil => rfl
  | _, _, .cons _ _ r => congrArg Nat.succ (rfs_len r)
theorem rfs_get : ∀ {vs : List V} {fs : List (Int × Fct)} {i : Nat} {x : V}, RFs K H vs fs → vs[i]? = some x → ∃ p n v f, fs[i]? = some (n, f) ∧ x = .ref p ∧ SqT K H p [.int n, v] ∧ RF K H v f
  | _, _, 0, _, .cons a b _, e => by
    cases e
    exact ⟨_, _, _, _, rfl, rfl, a, b⟩
  | _, _, i + 1, _, .cons _ _ r, e => rfs_get (i := i) r (by simpa using e)
theorem dp_ints_inv : ∀ {vs : List V} {l : List Int}, DpAll K H vs (l.map PyData.int) → vs = l.map V.int
  | _, [], h => by cases h; rfl
  | _, _ :: l, h => by
    cases h with
    | cons a r =>
      cases a
      rw [dp_ints_inv r]
      rfl
theorem fds_dp : ∀ {vs : List V} {xs : List Arg}, FDs K H vs xs → DpAll K H vs (xs.map Arg.enc)
  | _, _, .nil => .nil
  | _, _, .cons h r => .cons (by
    cases h with
    | i n => exact .int n
    | t h => exact .tup h (dp_ints _)) (fds_dp r)
theorem rf_dp {v : V} {f : Fct} (h : RF K H v f) : Dp K H v f.enc := by
  obtain ⟨a, vs, rfl, h1, h2⟩ := h
  exact .tup h1 (.cons (.str _) (fds_dp h2))
theorem dp_fds : ∀ {vs : List V} {xs : List Arg}, DpAll K H vs (xs.map Arg.enc) → FDs K H vs xs
  | _, [], h => by cases h; exact .nil
  | _, x :: xs, h => by
    cases h with
    | cons a r =>
      refine .cons ?_ (dp_fds r)
      cases x with
      | i n => cases a; exact .i n
      | t l =>
        cases a with
        | tup h1 h2 =>
          rw [dp_ints_inv h2] at h1
          exact .t h1
theorem dp_rf {v : V} {f : Fct} (h : Dp K H v f.enc) : RF K H v f := by
  obtain ⟨w, xs⟩ := f
  cases h with
  | tup h1 h2 =>
    cases h2 with
    | cons a r =>
      cases a
      exact ⟨_, _, rfl, h1, dp_fds r⟩
def encP (p : Int × Fct) : PyData := .tuple [.int p.1, p.2.enc]
theorem rfs_dp : ∀ {vs : List V} {fs : List (Int × Fct)}, RFs K H vs fs → DpAll K H vs (fs.map encP)
  | _, _, .nil => .nil
  | _, _, .cons h q r => .cons (.tup h (.cons (.int _) (.cons (rf_dp q) .nil))) (rfs_dp r)
/-- a list of facts at l -/
def RL (K : PySem.W.Frag) (H : Hp) (l : Addr) (fs : List (Int × Fct)) : Prop := ∃ vs, SqL K H l vs ∧ RFs K H vs fs
theorem rl_ex (e : Ex H H') {l : Addr} {fs : List (Int × Fct)} (h : RL K H l fs) : RL K H' l fs := by
  obtain ⟨vs, h1, h2⟩ := h
  exact ⟨vs, e.sqL h1, rfs_ex e h2⟩
theorem rl_dp {l : Addr} {fs : List (Int × Fct)} (h : RL K H l fs) : Dp K H (.ref l) (.list (fs.map encP)) := by
  obtain ⟨vs, h1, h2⟩ := h
  exact .lst h1 (rfs_dp h2)
end
/-- facts as the document wants them: good ones, their numbers rising from 1 -/
structure GFs (fs : List (Int × Fct)) : Prop where
  good : ∀ p ∈ fs, GF p.2
  rise : (fs.map (·.1)).Pairwise (· < ·)
  one : ∀ p ∈ fs, 1 ≤ p.1
def spFacts (K : PySem.W.Frag) : Sp := fun vs H Q _ => ∃ (b c : Addr) (n : Int), vs = [.ref b, .int n] ∧ 0 ≤ n ∧ n ≤ 1000 ∧ Bag H b c ∧ ∀ l vs fs H', H l = none → H' l = some (.lst vs) → RFs K H' vs fs → GFs fs → (fs.length : Int) ≤ n → Bag H' b c → Fr b H H' → Q (.ref l) H'
theorem use_fact {K : PySem.W.Frag} {H : Hp} {b c : Addr} {n : Int} {Q : VK} {E : XK} (B : Bag H b c) (hn : 0 ≤ n ∧ n ≤ 1000) (k : ∀ v f H', GF f → RF K H' v f → Bag H' b c → Fr b H H' → Q v H') : spFact K ([.ref b, .int n] ++ []) H Q E := ⟨b, c, n, rfl, hn.1, hn.2, B, fun v f H' g d => k v f H' g (dp_rf d)⟩
theorem gf_pass {f : Fct} (h : GF f) (e : f.w = "pass") : ∃ d m g c h, f = ⟨"pass", [.i d, .i m, .i g, .i c, .i h]⟩ ∧ R 0 999 d ∧ R 0 1439 m ∧ R 0 7 g ∧ R 0 9 c ∧ R 1 8 h := by
  cases h with
  | pass a b c d h => exact ⟨_, _, _, _, _, rfl, a, b, c, d, h⟩
  | _ =>
    dsimp only at e
    exact absurd e (by decide +kernel)
theorem gf_three {f : Fct} (h : GF f) (e : f.w = "toll" ∨ f.w = "board") : ∃ g d x, f = ⟨f.w, [.i g, .i d, x]⟩ ∧ R 0 999 d ∧ ∀ d', R 0 999 d' → GF ⟨f.w, [.i g, .i d', x]⟩ := by
  cases h with
  | toll a b c => exact ⟨_, _, _, rfl, b, fun d' h => .toll a h c⟩
  | board a b c d => exact ⟨_, _, _, rfl, b, fun d' h => .board a h c d⟩
  | _ =>
    dsimp only at e
    exact absurd e (by decide +kernel)

theorem eqV_str {a b : Str} (h : eqV (.str a) (.str b) = true) : a = b := by
  simpa [eqV] using h
theorem fds3 {K : PySem.W.Frag} {H : Hp} {vs : List V} {g d : Int} {x : Arg} (h : FDs K H vs [.i g, .i d, x]) : ∃ v, vs = [.int g, .int d, v] ∧ FD K H v x := by
  cases h with
  | cons a r =>
    cases a
    cases r with
    | cons a r =>
      cases a
      cases r with
      | cons a r =>
        cases r
        exact ⟨_, rfl, a⟩
theorem fds5 {K : PySem.W.Frag} {H : Hp} {vs : List V} {p q r s t : Int} (h : FDs K H vs [.i p, .i q, .i r, .i s, .i t]) : vs = [.int p, .int q, .int r, .int s, .int t] := by
  repeat (first | (cases ‹FDs _ _ _ (_ :: _)›) | (cases ‹FD _ _ _ _›))
  cases ‹FDs _ _ _ []›
  rfl
theorem sc_l_facts : FnScope ["_law_bag_here", "_law_most", "_law_amount", "_law_found", "_law_number", "_law_one_day", "_law_day_here", "_law_turn", "_law_fact_here"] ["_law_bag_here", "_law_most"] (defScope s_l_facts) :=
  ⟨rfl, rfl, rfl, by decide +kernel, rfl, by decide +kernel, by decide +kernel⟩
theorem ok_l_facts (T : Tx K mg) : FnOk P w K mg base CX0 5 T.f_l_facts T.d_l_facts ["_law_bag_here", "_law_most"] (spFacts K) := by
  refine T.F_l_facts.ok sc_l_facts (fun vs H Q E h => ?_) (fun cdv A outer s H vs Q E hr h => ?_)
  · obtain ⟨b, c, n, rfl, _⟩ := h
    rfl
  · obtain ⟨b, c, n, rfl, n0, n1, B, k⟩ := h
    refine ⟨_, (pss_cons (ps_set (i := 2) sc_l_facts.nd rfl (Or.inl rfl) (pe_call (ok_l_pull T) (hr.mono (by decide)) rfl T.g_l_pull T.F_l_pull.kp T.b_l_pull .nil pass0 (pa_cons (pv 0) (pa_cons (pe_op op_add (pv 1) pe_int) pa_nil)))) (pss_cons (ps_set (i := 3) sc_l_facts.nd rfl (Or.inl rfl) (pe_lst pa_nil)) (pss_cons (ps_set (i := 4) sc_l_facts.nd rfl (Or.inl rfl) pe_int) (pss_cons (ps_set (i := 5) sc_l_facts.nd rfl (Or.inl rfl) (pe_cmpR op_gt (pe_call (ok_l_pull T) (hr.mono (by decide)) rfl T.g_l_pull T.F_l_pull.kp T.b_l_pull .nil pass0 (pa_cons (pv 0) (pa_cons pe_int pa_nil))) pe_int (nomark _))) (pss_cons (ps_set (i := 6) sc_l_facts.nd rfl (Or.inl rfl) (pe_op op_add pe_int (pe_call (ok_l_pull T) (hr.mono (by decide)) rfl T.g_l_pull T.F_l_pull.kp T.b_l_pull .nil pass0 (pa_cons (pv 0) (pa_cons pe_int pa_nil))))) (pss_cons (ps_for PassesOwn.never rfl (pi_range1 (by rfl) T.z_range (pa_cons (pv 2) pa_nil)) (pg_name (i := 7) sc_l_facts.nd rfl (Or.inl rfl)) (pss_cons (ps_set (i := 4) sc_l_facts.nd rfl (Or.inl rfl) (pe_op op_add (pe_op op_add (pv 4) pe_int) (pe_callTy cz_int1 (by rfl) T.z_int (by decide +kernel) (pa_cons (pe_cmpR op_eq (pe_call (ok_l_pull T) (hr.mono (by decide)) rfl T.g_l_pull T.F_l_pull.kp T.b_l_pull .nil pass0 (pa_cons (pv 0) (pa_cons pe_int pa_nil))) pe_int (nomark _)) pa_nil)))) (pss_cons (ps_set (i := 8) sc_l_facts.nd rfl (Or.inl rfl) (pe_call (ok_l_fact T) (hr.mono (by decide)) rfl T.g_l_fact T.F_l_fact.kp T.b_l_fact .nil pass0 (pa_cons (pv 0) (pa_cons (pv 2) pa_nil)))) (Evl.pss_cut (ps_if (PW.pt (pw_and (pt_val (pv 5)) (pw_and1 (pt_cmpR op_eq (pe_ix (r := rIxT K) ix_tup (pv 8) pe_int (fun _ _ => rfl)) pe_str (nomark _))))) (pss_one (ps_set (i := 8) sc_l_facts.nd rfl (Or.inl rfl) (pe_op (r := rCatA K) op_catA (pe_tup (pa_cons pe_str (pa_cons (pv 6) (pa_cons (pe_ix (r := rIxT K) ix_tup (pv 8) pe_int (fun _ _ => rfl)) (pa_cons (pe_ix (r := rIxT K) ix_tup (pv 8) pe_int (fun _ _ => rfl)) (pa_cons (pe_op op_mod (pe_ix (r := rIxT K) ix_tup (pv 8) pe_int (fun _ _ => rfl)) pe_int) pa_nil)))))) (pe_slice (r := rSlT K) sl_tup (pv 8) (po_some pe_int) po_none)))) pss_nil) (Evl.pss_cut (ps_if (PW.pt (pw_and (pt_val (pv 5)) (pw_and1 (pt_cmpR (r := rIn K false) op_in_seq (pe_ix (r := rIxT K) ix_tup (pv 8) pe_int (fun _ _ => rfl)) (pe_lst (pa_cons pe_str (pa_cons pe_str pa_nil))) (by rfl))))) (pss_one (ps_set (i := 8) sc_l_facts.nd rfl (Or.inl rfl) (pe_op (r := rCatA K) op_catA (pe_op (r := rCatA K) op_catA (pe_slice (r := rSlT K) sl_tup (pv 8) po_none (po_some pe_int)) (pe_tup (pa_cons (pe_op op_mod (pe_ix (r := rIxT K) ix_tup (pv 8) pe_int (fun _ _ => rfl)) (pe_op op_add (pv 6) pe_int)) pa_nil))) (pe_slice (r := rSlT K) sl_tup (pv 8) (po_some pe_int) po_none)))) pss_nil) (pss_one (ps_expr (pe_bm PySem.F.plainAttrs_list PySem.F.slot_list_append PySem.F.type_list_append mt_append (pv 3) (pa_cons (pe_tup (pa_cons (pv 4) (pa_cons (pv 8) pa_nil))) pa_nil))))))))) (pss_one (ps_ret (pv 3))))))))), ?_⟩
    refine at_start (ρ' := [some _, some _, none, none, none, none, none, none, none]) rfl ?_
    walk_at "z0"
    walk_at "z"
    rename_i am _ am0 am1 _ _ l H1 nl e1 hl od _ _ _ _ _ dh H2 dh0 dh1 B2 _
    have lb : l ≠ b := by walk_at "zne"
    have lc : l ≠ c := by walk_at "zne"
    have hl2 : H2 l = some (.lst []) := by walk_at "zhp"
    have f02 : Fr b H H2 := by walk_at "zfr"
    have nl0 : H l = none := fr_none (by assumption) nl lb
    refine l_range (by omega) (fun i σ H' => ∃ (m : Int) (fs : List (Int × Fct)) (vs : List V) (v7 v8 : Option V), σ = [some (.ref b), some (.int n), some (.int am), some (.ref l), some (.int m), some (.bl (decide (0 < od))), some (.int (5 + dh)), v7, v8] ∧ Bag H' b c ∧ H' l = some (.lst vs) ∧ RFs K H' vs fs ∧ GFs fs ∧ (∀ p ∈ fs, p.1 ≤ m) ∧ fs.length = i ∧ 0 ≤ m ∧ Fr b H H') ⟨0, [], [], _, _, rfl, B2, hl2, .nil, ⟨(fun _ h => by cases h), List.Pairwise.nil, (fun _ h => by cases h)⟩, (fun _ h => by cases h), rfl, Int.le_refl _, f02⟩ (fun i σ H3 hi h => ?_) (fun σ H3 h => ?_)
    · obtain ⟨m, fs, vs, v7, v8, rfl, B3, hl3, r3, g3, hm, hlen, m0, f03⟩ := h
      walk_at "z"
      rename_i q H4 q0 q1 B4 f4
      have hl4 : H4 l = some (.lst vs) := f4 _ _ lb hl3
      have r4 := rfs_pull f4 B3 r3
      refine use_fact B4 (by omega) fun v f H5 gf rf B5 f5 => ?_
      have hl5 : H5 l = some (.lst vs) := f5 _ _ lb hl4
      have r5 := rfs_pull f5 B4 r4
      have f05 : Fr b H H5 := by walk_at "zfr"
      generalize hm' : m + 1 + (if decide (q = 0) = true then (1 : Int) else 0) = m'
      have hmm : m < m' := by
        rw [← hm']
        split <;> omega
      walk_at "z"
      refine s_cut (fun ρ H' => ∃ v f, ρ = [some (.ref b), some (.int n), some (.int am), some (.ref l), some (.int m'), some (.bl (decide (0 < od))), some (.int (5 + dh)), some (.int i), some v] ∧ GF f ∧ RF K H' v f ∧ Bag H' b c ∧ H' l = some (.lst vs) ∧ RFs K H' vs fs ∧ Fr b H H') ?_ fun ρ H6 h => ?_
      · obtain ⟨a, us, rfl, ha, hu⟩ := rf
        walk_at "z"
        refine ite_dec (fun h1 => ?_) (fun h1 => ?_)
        · walk_at "z"
          refine s_ixT ha (at0 _ _) ?_
          walk_at "z"
          refine ite_dec (fun h2 => ?_) (fun h2 => ?_)
          · obtain ⟨d, mi, g, ca, ho, rfl, r1, r2, r3', r4', r5'⟩ := gf_pass gf h2
            have hu := fds5 hu
            subst hu
            walk_at "z"
            rename_i t6 H6 _ e6 ht6
            refine s_slT 6 [.int ho] (e6.sqT ha) rfl (by decide) rfl ?_
            refine s_new fun t7 H7 _ e7 ht7 => ?_
            refine s_catA (SqT.of (by walk_at "zhp")) (SqT.of ht7) (by simp) (by simp) (sz (by simp)) ?_
            refine s_new fun t8 H8 _ e8 ht8 => ?_
            have e58 : Ex H5 H8 := by walk_at "zex"
            refine ⟨_, ⟨"pass", [.i (5 + dh), .i mi, .i g, .i (ca % 2), .i ho]⟩, rfl, .pass ⟨by omega, by omega⟩ r2 r3' ⟨by omega, by omega⟩ r5', ⟨_, _, rfl, SqT.of ht8, .cons (.i _) (.cons (.i _) (.cons (.i _) (.cons (.i _) (.cons (.i _) .nil))))⟩, B5.ext e58, e58 _ _ hl5, rfs_ex e58 r5, f05.trans (e58.fr b)⟩
          · walk_at "z"
            exact ⟨_, f, rfl, gf, ⟨a, us, rfl, ha, hu⟩, B5, hl5, r5, f05⟩
        · walk_at "z"
          exact ⟨_, f, rfl, gf, ⟨a, us, rfl, ha, hu⟩, B5, hl5, r5, f05⟩
      · obtain ⟨v, f, rfl, gf, rf, B6, hl6, r6, f06⟩ := h
        refine s_cut (fun ρ H' => ∃ v f, ρ = [some (.ref b), some (.int n), some (.int am), some (.ref l), some (.int m'), some (.bl (decide (0 < od))), some (.int (5 + dh)), some (.int i), some v] ∧ GF f ∧ RF K H' v f ∧ Bag H' b c ∧ H' l = some (.lst vs) ∧ RFs K H' vs fs ∧ Fr b H H') ?_ fun ρ H7 h => ?_
        · obtain ⟨a, us, rfl, ha, hu⟩ := rf
          walk_at "z"
          refine ite_dec (fun h1 => ?_) (fun h1 => ?_)
          · walk_at "z"
            refine s_ixT ha (at0 _ _) ?_
            walk_at "z"
            rename_i ps H7 _ e7 hps
            refine s_rInSeq (.inl (SqL.of hps)) rfl rfl ?_
            walk_at "z"
            refine ite_both (fun h2 => ?_) (fun h2 => ?_)
            · have hw : f.w = "toll" ∨ f.w = "board" := by
                unfold inV at h2
                simp only [List.any_cons, List.any_nil, Bool.or_false, Bool.or_eq_true] at h2
                rcases h2 with h2 | h2
                · exact .inl (eqV_str h2).symm
                · exact .inr (eqV_str h2).symm
              obtain ⟨g, d, x, ef, hd, hmk⟩ := gf_three gf hw
              obtain ⟨w, xs⟩ := f
              dsimp only at ef ha
              injection ef with _ ef
              subst ef
              obtain ⟨v3, rfl, hx⟩ := fds3 hu
              walk_at "z"
              refine s_slT 4 [.str w, .int g] (e7.sqT ha) rfl (by decide) rfl ?_
              refine s_new fun t8 H8 _ e8 ht8 => ?_
              walk_at "z"
              rename_i t9 H9 _ e9 ht9
              refine s_catA (SqT.of (e9 _ _ ht8)) (SqT.of ht9) (by simp) (by simp) (sz (by simp)) ?_
              refine s_new fun tA HA _ eA htA => ?_
              walk_at "z"
              refine s_slT 4 [v3] (sqT_ex ha (by walk_at "zex")) rfl (by decide) rfl ?_
              refine s_new fun tB HB _ eB htB => ?_
              refine s_catA (SqT.of (eB _ _ htA)) (SqT.of htB) (by simp) (by simp) (sz (by simp)) ?_
              refine s_new fun tC HC _ eC htC => ?_
              have e6C : Ex _ HC := ((((e7.trans e8).trans e9).trans eA).trans eB).trans eC
              have hd' := hd.1
              exact ⟨_, ⟨w, [.i g, .i (d % (5 + dh + 2)), x]⟩, rfl, hmk _ ⟨Int.emod_nonneg _ (by omega), by have := Int.emod_lt_of_pos d (b := 5 + dh + 2) (by omega); omega⟩, ⟨_, _, rfl, SqT.of htC, .cons (.i _) (.cons (.i _) (.cons (fd_map (fun z => e6C.sqT z) hx) .nil))⟩, B6.ext e6C, e6C _ _ hl6, rfs_ex e6C r6, f06.trans (e6C.fr b)⟩
            · walk_at "z"
              exact ⟨_, f, rfl, gf, ⟨a, us, rfl, e7.sqT ha, fds_map (fun z => e7.sqT z) hu⟩, B6.ext e7, e7 _ _ hl6, rfs_ex e7 r6, f06.trans (e7.fr b)⟩
          · walk_at "z"
            exact ⟨_, f, rfl, gf, ⟨a, us, rfl, ha, hu⟩, B6, hl6, r6, f06⟩
        · obtain ⟨v, f, rfl, gf, rf, B7, hl7, r7, f07⟩ := h
          walk_at "z"
          rename_i t8 H8 _ e8 ht8
          refine s_app (e8 _ _ hl7) (by rw [rfs_len r7]; exact szl (by omega)) fun H9 f9 hl9 => ?_
          have r9 : RFs K H9 (vs ++ [.ref t8]) (fs ++ [(m', f)]) := rfs_fr f9 (e8 _ _ hl7) (rfs_snoc (SqT.of ht8) (rf_ex e8 rf) (rfs_ex e8 r7))
          refine ⟨m', _, _, _, _, rfl, (B7.ext e8).frs lb lc f9, hl9, r9, ⟨fun p hp => ?_, ?_, fun p hp => ?_⟩, fun p hp => ?_, by rw [List.length_append, hlen]; rfl, by omega, fun x o hx ho => f9 _ _ (ne_of_none ho nl0) ((f07.trans (e8.fr b)) x o hx ho)⟩
          · rcases List.mem_append.mp hp with hp | hp
            · exact g3.good p hp
            · rw [List.mem_singleton.mp hp]
              exact gf
          · rw [List.map_append]
            refine List.pairwise_append.mpr ⟨g3.rise, List.pairwise_singleton _ _, fun x hx y hy => ?_⟩
            obtain ⟨p, hp, rfl⟩ := List.mem_map.mp hx
            rw [List.map_cons, List.map_nil, List.mem_singleton] at hy
            have := hm p hp
            omega
          · rcases List.mem_append.mp hp with hp | hp
            · exact g3.one p hp
            · rw [List.mem_singleton.mp hp]
              show 1 ≤ m'
              omega
          · rcases List.mem_append.mp hp with hp | hp
            · have := hm p hp
              omega
            · rw [List.mem_singleton.mp hp]
              exact Int.le_refl _
    · obtain ⟨m, fs, vs, v7, v8, rfl, B3, hl3, r3, g3, hm, hlen, m0, f03⟩ := h
      walk_at "z"
      exact k l vs fs H3 nl0 hl3 r3 g3 (by omega) B3 f03

/-! what holds on a day -/
def Wd (w : Str) : Prop := w = "toll" ∨ w = "board" ∨ w = "trust"
def Fits (w : Str) (x : Arg) : Prop := if w = "board" then ∃ gs, x = .t gs ∧ Rising gs ∧ ∀ y ∈ gs, R 0 7 y else ∃ n, x = .i n
theorem fits_no {w : Str} (h : w ≠ "board") (n : Int) : Fits w (.i n) := by
  unfold Fits
  rw [if_neg h]
  exact ⟨_, rfl⟩
theorem fits_yes {gs : List Int} (h1 : Rising gs) (h2 : ∀ y ∈ gs, R 0 7 y) : Fits "board" (.t gs) := by
  unfold Fits
  rw [if_pos rfl]
  exact ⟨_, rfl, h1, h2⟩
theorem ne_toll_board : (("toll" : Str) ≠ "board") := by decide +kernel
theorem ne_trust_board : (("trust" : Str) ≠ "board") := by decide +kernel
theorem gf_hold {f : Fct} (h : GF f) (e : Wd f.w) : ∃ g d x, f = ⟨f.w, [.i g, .i d, x]⟩ ∧ R 0 999 d ∧ Fits f.w x := by
  cases h with
  | toll a b c => exact ⟨_, _, _, rfl, b, fits_no ne_toll_board _⟩
  | board a b c d => exact ⟨_, _, _, rfl, b, fits_yes c d⟩
  | trust a b c => exact ⟨_, _, _, rfl, b, fits_no ne_trust_board _⟩
  | _ =>
    unfold Wd at e
    dsimp only at e
    exact absurd e (by decide +kernel)
theorem gf_head {f : Fct} (h : GF f) : ∃ g x r, f = ⟨f.w, .i g :: x :: r⟩ := by
  cases h <;> exact ⟨_, _, _, rfl⟩
def sel (w : Str) (g d : Int) (f : Fct) (b : Int × Arg) : Int × Arg :=
  match f.xs with
  | [.i g', .i d', x] => if f.w = w ∧ g' = g ∧ b.1 ≤ d' ∧ d' ≤ d then (d', x) else b
  | _ => b
def holdF (w : Str) (g d : Int) (o : Arg) (fs : List (Int × Fct)) : Int × Arg := fs.foldl (fun b p => sel w g d p.2 b) (-1, o)
theorem hold_take {w : Str} {g d : Int} {o : Arg} {fs : List (Int × Fct)} {i : Nat} {p : Int × Fct} (e : fs[i]? = some p) : holdF w g d o (fs.take (i + 1)) = sel w g d p.2 (holdF w g d o (fs.take i)) := by
  unfold holdF
  rw [List.take_succ, e, List.foldl_append]
  rfl
theorem sel_yes {w : Str} {g d d' : Int} {x : Arg} {b : Int × Arg} (h1 : b.1 ≤ d') (h2 : d' ≤ d) : sel w g d ⟨w, [.i g, .i d', x]⟩ b = (d', x) := if_pos ⟨rfl, rfl, h1, h2⟩
theorem sel_no {w w' : Str} {g g' d d' : Int} {x : Arg} {b : Int × Arg} (h : ¬ (w' = w ∧ g' = g ∧ b.1 ≤ d' ∧ d' ≤ d)) : sel w g d ⟨w', [.i g', .i d', x]⟩ b = b := if_neg h
theorem sel_word {w : Str} {g d : Int} {f : Fct} {b : Int × Arg} (h : f.w ≠ w) : sel w g d f b = b := by
  unfold sel
  split
  · exact if_neg fun z => h z.1
  · rfl
theorem fd_ex {K : PySem.W.Frag} {H H' : Hp} (e : Ex H H') {v : V} {x : Arg} (h : FD K H v x) : FD K H' v x := fd_map (fun z => e.sqT z) h
def spHold (K : PySem.W.Frag) : Sp := fun vs H Q _ => ∃ (l : Addr) (wd : Str) (g d : Int) (v : V) (o : Arg) (fs : List (Int × Fct)), vs = [.ref l, .str wd, .int g, .int d, v] ∧ RL K H l fs ∧ GFs fs ∧ Wd wd ∧ FD K H v o ∧ ∀ v' H', Ex H H' → FD K H' v' (holdF wd g d o fs).2 → Q v' H'
theorem use_hold {K : PySem.W.Frag} {H : Hp} {Q : VK} {E : XK} {l : Addr} {wd : Str} {g d : Int} {v : V} {o : Arg} {fs : List (Int × Fct)} (h : RL K H l fs) (gf : GFs fs) (hw : Wd wd) (hv : FD K H v o) (k : ∀ v' H', Ex H H' → FD K H' v' (holdF wd g d o fs).2 → Q v' H') : spHold K ([.ref l, .str wd, .int g, .int d, v] ++ []) H Q E := ⟨l, wd, g, d, v, o, fs, rfl, h, gf, hw, hv, k⟩
theorem fds_two {K : PySem.W.Frag} {H : Hp} {vs : List V} {g : Int} {x : Arg} {r : List Arg} (h : FDs K H vs (.i g :: x :: r)) : ∃ v us, vs = .int g :: v :: us := by
  cases h with
  | cons a h =>
    cases a
    cases h with
    | cons a h => exact ⟨_, _, rfl⟩
theorem at1 {α : Type} (a c : α) (r : List α) : atI (a :: c :: r) (1 : Int) = some c := atI_nat (xs := a :: c :: r) (j := 1) rfl
theorem sc_l_hold : FnScope ["_law_facts_here", "_law_word", "_law_gate_here", "_law_day_here", "_law_other", "_law_best", "_law_number", "_law_fact_here"] ["_law_facts_here", "_law_word", "_law_gate_here", "_law_day_here", "_law_other"] (defScope s_l_hold) :=
  ⟨rfl, rfl, rfl, by decide +kernel, rfl, by decide +kernel, by decide +kernel⟩
theorem ok_l_hold (T : Tx K mg) : FnOk P w K mg base CX0 1 T.f_l_hold T.d_l_hold ["_law_facts_here", "_law_word", "_law_gate_here", "_law_day_here", "_law_other"] (spHold K) := by
  refine T.F_l_hold.ok sc_l_hold (fun vs H Q E h => ?_) (fun cdv A outer s H vs Q E hr h => ?_)
  · obtain ⟨l, wd, g, d, v, o, fs, rfl, _⟩ := h
    rfl
  · obtain ⟨l, wd, g, d, v0, o, fs, rfl, ⟨vs, hl, hf⟩, gfs, hw, hv, k⟩ := h
    refine ⟨_, (pss_cons (ps_set (i := 5) sc_l_hold.nd rfl (Or.inl rfl) (pe_tup (pa_cons (pe_un un_neg pe_int) (pa_cons (pv 4) pa_nil)))) (pss_cons (ps_for PassesOwn.never rfl (pi_list (pv 0)) (pg_tup (by rfl) (pgs_cons (pg_name (i := 6) sc_l_hold.nd rfl (Or.inl rfl)) (pgs_cons (pg_name (i := 7) sc_l_hold.nd rfl (Or.inl rfl)) pgs_nil))) (pss_one (ps_if (PW.pt (pw_and (pt_cmpR op_eq (pe_ix (r := rIxT K) ix_tup (pv 7) pe_int (fun _ _ => rfl)) (pv 1) (nomark _)) (pw_and (pt_cmpR op_eq (pe_ix (r := rIxT K) ix_tup (pv 7) pe_int (fun _ _ => rfl)) (pv 2) (nomark _)) (pw_and1 (pt_chain op_le op_le (pe_ix (r := rIxT K) ix_tup (pv 5) pe_int (fun _ _ => rfl)) (pe_ix (r := rIxT K) ix_tup (pv 7) pe_int (fun _ _ => rfl)) (pv 3)))))) (pss_one (ps_set (i := 5) sc_l_hold.nd rfl (Or.inl rfl) (pe_tup (pa_cons (pe_ix (r := rIxT K) ix_tup (pv 7) pe_int (fun _ _ => rfl)) (pa_cons (pe_ix (r := rIxT K) ix_tup (pv 7) pe_int (fun _ _ => rfl)) pa_nil))))) pss_nil))) (pss_one (ps_ret (pe_ix (r := rIxT K) ix_tup (pv 5) pe_int (fun _ _ => rfl)))))), ?_⟩
    refine at_start (ρ' := [some _, some _, some _, some _, some _, none, none, none]) rfl ?_
    walk_at "z0"
    walk_at "z"
    rename_i t0 H1 _ e1 ht0
    refine l_list vs (fun i σ H' => ∃ t v v6 v7, σ = [some (.ref l), some (.str wd), some (.int g), some (.int d), some v0, some (.ref t), v6, v7] ∧ Ex H H' ∧ SqT K H' t [.int (holdF wd g d o (fs.take i)).1, v] ∧ FD K H' v (holdF wd g d o (fs.take i)).2)
      ⟨t0, v0, _, _, rfl, e1, SqT.of ht0, fd_ex e1 hv⟩ (fun i σ H' hi h => ?_) (fun i x σ H2 hi h => ?_) (fun σ H2 h => ?_)
    · obtain ⟨t, v, v6, v7, rfl, e2, _⟩ := h
      exact e2.sqL hl
    · obtain ⟨t, v, v6, v7, rfl, e2, ht, hv2⟩ := h
      obtain ⟨p, n, u, f, hfi, rfl, hp, a, us, rfl, ha, hu⟩ := rfs_get hf hi
      replace hp := e2.sqT hp
      replace ha := e2.sqT ha
      have gf := gfs.good _ (List.mem_of_getElem? hfi)
      walk_at "z"
      refine s_ixT ha (at0 _ _) ?_
      walk_at "z"
      refine ite_dec (fun h1 => ?_) (fun h1 => ?_)
      · obtain ⟨g', d', x, ef, hd, _⟩ := gf_hold gf (by rw [h1]; exact hw)
        replace hu := fds_map (fun z => e2.sqT z) hu
        dsimp only at ef
        obtain ⟨fw, fx⟩ := f
        dsimp only at h1 hu ha ef hfi
        subst h1
        injection ef with _ ef
        subst ef
        obtain ⟨v3, rfl, hx⟩ := fds3 hu
        walk_at "z"
        refine ite_dec (fun h2 => ?_) (fun h2 => ?_)
        · subst h2
          walk_at "z"
          refine ite_dec (fun h3 => ?_) (fun h3 => ?_)
          · walk_at "z"
            refine ite_dec (fun h4 => ?_) (fun h4 => ?_)
            · walk_at "z"
              rename_i tn H3 _ e3 htn
              refine ⟨tn, v3, _, _, rfl, e2.trans e3, ?_, ?_⟩
              · rw [hold_take hfi, sel_yes h3 h4]
                exact SqT.of htn
              · rw [hold_take hfi, sel_yes h3 h4]
                exact fd_ex e3 hx
            · walk_at "z"
              refine ⟨t, v, _, _, rfl, e2, ?_, ?_⟩
              · rw [hold_take hfi, sel_no (by intro z; exact h4 z.2.2.2)]
                exact ht
              · rw [hold_take hfi, sel_no (by intro z; exact h4 z.2.2.2)]
                exact hv2
          · walk_at "z"
            refine ⟨t, v, _, _, rfl, e2, ?_, ?_⟩
            · rw [hold_take hfi, sel_no (by intro z; exact h3 z.2.2.1)]
              exact ht
            · rw [hold_take hfi, sel_no (by intro z; exact h3 z.2.2.1)]
              exact hv2
        · walk_at "z"
          refine ⟨t, v, _, _, rfl, e2, ?_, ?_⟩
          · rw [hold_take hfi, sel_no (by intro z; exact h2 z.2.1)]
            exact ht
          · rw [hold_take hfi, sel_no (by intro z; exact h2 z.2.1)]
            exact hv2
      · walk_at "z"
        refine ⟨t, v, _, _, rfl, e2, ?_, ?_⟩
        · rw [hold_take hfi, sel_word h1]
          exact ht
        · rw [hold_take hfi, sel_word h1]
          exact hv2
    · obtain ⟨t, v, v6, v7, rfl, e2, ht, hv2⟩ := h
      walk_at "z"
      rw [List.take_of_length_le (by rw [rfs_len hf]; exact Nat.le_refl _)] at hv2
      exact k _ _ e2 hv2

theorem cut2 {x y z : V} {r : List V} : cutV (x :: y :: z :: r) none (some 2) = [x, y] := by
  unfold cutV
  rw [show ((2 : Int)) = ((2 : Nat) : Int) from rfl, HT.sIx_nat, HT.sIx_none]
  simp
theorem s_slT2 {H : Hp} {Q : VK} {a : Addr} {x y z : V} {r : List V} (h : SqT K H a (x :: y :: z :: r)) (k : NewO (.tup [x, y]) H Q) : rSlT K (.ref a) none (some 2) H Q :=
  s_slT (r.length + 3) [x, y] h rfl (by
    rw [show ((2 : Int)) = ((2 : Nat) : Int) from rfl, HT.sIx_nat]
    omega) cut2 k
theorem eqv_pair (a b : Str) (m n : Int) : PyData.eqv (.tuple [.str a, .int m]) (.tuple [.str b, .int n]) = decide (a = b ∧ m = n) := by
  unfold PyData.eqv
  unfold PyData.eqvAll
  unfold PyData.eqvAll
  unfold PyData.eqvAll
  unfold PyData.eqv
  by_cases h1 : a = b
  · by_cases h2 : m = n
    · simp [h1, h2]
    · simp [h1, h2]
  · simp [h1]
theorem s_neP {H : Hp} {Q : VK} {p q : Addr} {a b : Str} {m n : Int} (h1 : SqT K H p [.str a, .int m]) (h2 : SqT K H q [.str b, .int n]) (ok1 : PyData.strOk a = true) (ok2 : PyData.strOk b = true) (k : Q (.bl (!decide (a = b ∧ m = n))) H) : rNeD K (.ref p) (.ref q) H Q := by
  refine ⟨_, _, .tup h1 (.cons (.str _) (.cons (.int _) .nil)), .tup h2 (.cons (.str _) (.cons (.int _) .nil)), ?_, ?_, ?_⟩
  · simp [SeqAt.shaped, PyData.canLay0, PyData.canLayAll0, ok1, PyData.depth, PyData.depthAll]
  · simp [SeqAt.shaped, PyData.canLay0, PyData.canLayAll0, ok2, PyData.depth, PyData.depthAll]
  · rw [eqv_pair]
    exact k
theorem gf_strOk {f : Fct} (h : GF f) : PyData.strOk f.w = true := by
  cases h <;> (dsimp only; decide +kernel)
theorem wd_strOk {w : Str} (h : Wd w) : PyData.strOk w = true := by
  rcases h with rfl | rfl | rfl <;> decide +kernel
theorem fds_three {K : PySem.W.Frag} {H : Hp} {vs : List V} {g : Int} {x : Arg} {r : List Arg} (h : FDs K H vs (.i g :: x :: r)) : ∃ v us, vs = .int g :: v :: us := fds_two h
theorem sel_not {w fw : Str} {g d g1 : Int} {r : List Arg} {b : Int × Arg} (h : ¬ (fw = w ∧ g1 = g)) : sel w g d ⟨fw, .i g1 :: r⟩ b = b := by
  unfold sel
  split
  · rename_i e
    injection e with e _
    injection e with e
    subst e
    exact if_neg fun z => h ⟨z.1, z.2.1⟩
  · rfl
theorem sc_p_holding : FnScope ["facts", "word", "gate", "day", "unsaid", "latest", "held", "number", "fact"] ["facts", "word", "gate", "day", "unsaid"] (defScope s_p_holding) :=
  ⟨rfl, rfl, rfl, by decide +kernel, rfl, by decide +kernel, by decide +kernel⟩
theorem ok_p_holding (T : Tx K mg) : FnOk P w K mg base CX0 1 T.f_p_holding T.d_p_holding ["facts", "word", "gate", "day", "unsaid"] (spHold K) := by
  refine T.F_p_holding.ok sc_p_holding (fun vs H Q E h => ?_) (fun cdv A outer s H vs Q E hr h => ?_)
  · obtain ⟨l, wd, g, d, v, o, fs, rfl, _⟩ := h
    rfl
  · obtain ⟨l, wd, g, d, v0, o, fs, rfl, ⟨vs, hl, hf⟩, gfs, hw, hv, k⟩ := h
    refine ⟨_, (pss_cons (ps_set (i := 5) sc_p_holding.nd rfl (Or.inl rfl) (pe_tup (pa_cons (pe_un un_neg pe_int) (pa_cons pe_int pa_nil)))) (pss_cons (ps_set (i := 6) sc_p_holding.nd rfl (Or.inl rfl) (pv 4)) (pss_cons (ps_for PassesOwn.never rfl (pi_list (pv 0)) (pg_tup (by rfl) (pgs_cons (pg_name (i := 7) sc_p_holding.nd rfl (Or.inl rfl)) (pgs_cons (pg_name (i := 8) sc_p_holding.nd rfl (Or.inl rfl)) pgs_nil))) (pss_cons (ps_if (PW.pt (pw_or (pt_cmpR (r := rNeD K) (op_neD hr.units) (pe_slice (r := rSlT K) sl_tup (pv 8) po_none (po_some pe_int)) (pe_tup (pa_cons (pv 1) (pa_cons (pv 2) pa_nil))) (nomark _)) (pw_or1 (pt_cmpR op_gt (pe_ix (r := rIxT K) ix_tup (pv 8) pe_int (fun _ _ => rfl)) (pv 3) (nomark _))))) (pss_one ps_continue) pss_nil) (pss_one (ps_if (pt_cmpR (op_gtT2 hr.units0) (pe_tup (pa_cons (pe_ix (r := rIxT K) ix_tup (pv 8) pe_int (fun _ _ => rfl)) (pa_cons (pv 7) pa_nil))) (pv 5) (nomark _)) (pss_cons (ps_set (i := 5) sc_p_holding.nd rfl (Or.inl rfl) (pe_tup (pa_cons (pe_ix (r := rIxT K) ix_tup (pv 8) pe_int (fun _ _ => rfl)) (pa_cons (pv 7) pa_nil)))) (pss_one (ps_set (i := 6) sc_p_holding.nd rfl (Or.inl rfl) (pe_ix (r := rIxT K) ix_tup (pv 8) pe_int (fun _ _ => rfl))))) pss_nil)))) (pss_one (ps_ret (pv 6)))))), ?_⟩
    refine at_start (ρ' := [some _, some _, some _, some _, some _, none, none, none, none]) rfl ?_
    walk_at "z0"
    walk_at "z"
    rename_i t0 H1 _ e1 ht0
    refine l_list vs (fun i σ H' => ∃ t v n0 v7 v8, σ = [some (.ref l), some (.str wd), some (.int g), some (.int d), some v0, some (.ref t), some v, v7, v8] ∧ Ex H H' ∧ SqT K H' t [.int (holdF wd g d o (fs.take i)).1, .int n0] ∧ FD K H' v (holdF wd g d o (fs.take i)).2 ∧ ∀ j p, i ≤ j → fs[j]? = some p → n0 < p.1)
      ⟨t0, v0, 0, _, _, rfl, e1, SqT.of ht0, fd_ex e1 hv, fun j p _ hp => by have := gfs.one _ (List.mem_of_getElem? hp); omega⟩ (fun i σ H' hi h => ?_) (fun i x σ H2 hi h => ?_) (fun σ H2 h => ?_)
    · obtain ⟨t, v, n0, v7, v8, rfl, e2, _⟩ := h
      exact e2.sqL hl
    · obtain ⟨t, v, n0, v7, v8, rfl, e2, ht, hv2, hn⟩ := h
      obtain ⟨p, n, u, f, hfi, rfl, hp, a, us, rfl, ha, hu⟩ := rfs_get hf hi
      replace hp := e2.sqT hp
      replace ha := e2.sqT ha
      have gf := gfs.good _ (List.mem_of_getElem? hfi)
      have hlt : n0 < n := hn i _ (Nat.le_refl _) hfi
      have hn' : ∀ j p, i + 1 ≤ j → fs[j]? = some p → n0 < p.1 := fun j p hj hp => hn j p (by omega) hp
      have hn2 : ∀ j p, i + 1 ≤ j → fs[j]? = some p → n < p.1 := fun j p hj hp => by
        have z := gfs.rise
        rw [List.pairwise_iff_getElem] at z
        obtain ⟨hj1, hj2⟩ := List.getElem?_eq_some_iff.mp hp
        obtain ⟨hi1, hi2⟩ := List.getElem?_eq_some_iff.mp hfi
        have y := z i j (by rw [List.length_map]; exact hi1) (by rw [List.length_map]; exact hj1) (by omega)
        rw [List.getElem_map, List.getElem_map, hi2, hj2] at y
        exact y
      have ok1 := gf_strOk gf
      have ok2 := wd_strOk hw
      obtain ⟨g1, x1, r1, ef⟩ := gf_head gf
      obtain ⟨fw, fx⟩ := f
      dsimp only at ef ha hu hfi ok1 gf
      injection ef with _ ef
      subst ef
      obtain ⟨v1, us1, rfl⟩ := fds_two hu
      walk_at "z"
      refine s_slT2 ha ?_
      refine s_new fun q1 H3 _ e3 hq1 => ?_
      walk_at "z"
      rename_i q2 H4 _ e4 hq2
      refine s_neP (SqT.of (e4 _ _ hq1)) (SqT.of hq2) ok1 ok2 ?_
      have e24 := e3.trans e4
      walk_at "z"
      refine ite_ndec (fun h1 => ?_) (fun h1 => ?_)
      · walk_at "z"
        refine s_cont ⟨t, v, n0, _, _, rfl, e2.trans e24, ?_, ?_, hn'⟩
        · rw [hold_take hfi, sel_not h1]
          exact e24.sqT ht
        · rw [hold_take hfi, sel_not h1]
          exact fd_ex e24 hv2
      · obtain ⟨rfl, rfl⟩ := h1
        obtain ⟨g', d', x, ef, hd, _⟩ := gf_hold gf hw
        injection ef with _ ef
        rw [ef] at hu gf hfi
        obtain ⟨v3, ev, hx⟩ := fds3 hu
        rw [ev] at ha hu
        replace ha := e24.sqT ha
        replace hx := fd_ex e24 (fd_ex e2 hx)
        replace hv2 := fd_ex e24 hv2
        replace e2 := e2.trans e24
        replace ht := e24.sqT ht
        injection ef with eg _
        injection eg with eg
        subst eg
        walk_at "z"
        refine ite_dec (fun h2 => ?_) (fun h2 => ?_)
        · walk_at "z"
          refine s_cont ⟨t, v, n0, _, _, rfl, e2, ?_, ?_, hn'⟩
          · rw [hold_take hfi, sel_no (by intro z; omega)]
            exact ht
          · rw [hold_take hfi, sel_no (by intro z; omega)]
            exact hv2
        · walk_at "z"
          rename_i q3 H5 _ e5 hq3
          refine s_gtT2 (SqT.of hq3) (e5.sqT ht) ?_
          walk_at "z"
          refine ite_dec (fun h3 => ?_) (fun h3 => ?_)
          · walk_at "z"
            rename_i q4 H6 _ e6 hq4
            refine ⟨q4, v3, n, _, _, rfl, (e2.trans e5).trans e6, ?_, ?_, hn2⟩
            · rw [hold_take hfi, sel_yes (by omega) (by omega)]
              exact SqT.of hq4
            · rw [hold_take hfi, sel_yes (by omega) (by omega)]
              exact fd_ex e6 (fd_ex e5 hx)
          · walk_at "z"
            refine ⟨t, v, n0, _, _, rfl, e2.trans e5, ?_, ?_, hn'⟩
            · rw [hold_take hfi, sel_no (by intro z; omega)]
              exact e5.sqT ht
            · rw [hold_take hfi, sel_no (by intro z; omega)]
              exact fd_ex e5 hv2
    · obtain ⟨t, v, n0, v7, v8, rfl, e2, ht, hv2, hn⟩ := h
      walk_at "z"
      rw [List.take_of_length_le (by rw [rfs_len hf]; exact Nat.le_refl _)] at hv2
      exact k _ _ e2 hv2

def spOn (K : PySem.W.Frag) (wd : Str) (o : Arg) : Sp := fun vs H Q _ => ∃ (l : Addr) (g d : Int) (fs : List (Int × Fct)), vs = [.ref l, .int g, .int d] ∧ RL K H l fs ∧ GFs fs ∧ ∀ v' H', Ex H H' → FD K H' v' (holdF wd g d o fs).2 → Q v' H'
theorem sc_p_toll_on : FnScope ["facts", "gate", "day"] ["facts", "gate", "day"] (defScope s_p_toll_on) :=
  ⟨rfl, rfl, rfl, by decide +kernel, rfl, by decide +kernel, by decide +kernel⟩
theorem ok_p_toll_on (T : Tx K mg) : FnOk P w K mg base CX0 2 T.f_p_toll_on T.d_p_toll_on ["facts", "gate", "day"] (spOn K "toll" (.i 0)) := by
  refine T.F_p_toll_on.ok sc_p_toll_on (fun vs H Q E h => ?_) (fun cdv A outer s H vs Q E hr h => ?_)
  · obtain ⟨l, g, d, fs, rfl, _⟩ := h
    rfl
  · obtain ⟨l, g, d, fs, rfl, rl, gfs, k⟩ := h
    refine ⟨_, (pss_one (ps_ret (pe_call (ok_p_holding T) (hr.mono (by decide)) rfl T.g_p_holding T.F_p_holding.kp T.b_p_holding .nil pass0 (pa_cons (pv 0) (pa_cons pe_str (pa_cons (pv 1) (pa_cons (pv 2) (pa_cons pe_int pa_nil)))))))), ?_⟩
    refine at_start (ρ' := [some _, some _, some _]) rfl ?_
    walk_at "z0"
    walk_at "z"
    exact use_hold rl gfs (.inl rfl) (.i 0) k
theorem sc_p_trust_on : FnScope ["facts", "gate", "day"] ["facts", "gate", "day"] (defScope s_p_trust_on) :=
  ⟨rfl, rfl, rfl, by decide +kernel, rfl, by decide +kernel, by decide +kernel⟩
theorem ok_p_trust_on (T : Tx K mg) : FnOk P w K mg base CX0 2 T.f_p_trust_on T.d_p_trust_on ["facts", "gate", "day"] (spOn K "trust" (.i 0)) := by
  refine T.F_p_trust_on.ok sc_p_trust_on (fun vs H Q E h => ?_) (fun cdv A outer s H vs Q E hr h => ?_)
  · obtain ⟨l, g, d, fs, rfl, _⟩ := h
    rfl
  · obtain ⟨l, g, d, fs, rfl, rl, gfs, k⟩ := h
    refine ⟨_, (pss_one (ps_ret (pe_call (ok_p_holding T) (hr.mono (by decide)) rfl T.g_p_holding T.F_p_holding.kp T.b_p_holding .nil pass0 (pa_cons (pv 0) (pa_cons pe_str (pa_cons (pv 1) (pa_cons (pv 2) (pa_cons pe_int pa_nil)))))))), ?_⟩
    refine at_start (ρ' := [some _, some _, some _]) rfl ?_
    walk_at "z0"
    walk_at "z"
    exact use_hold rl gfs (.inr (.inr rfl)) (.i 0) k
/-! what a sel keeps -/
theorem hold_fits {wd : Str} {g d : Int} {o : Arg} (hw : Wd wd) (ho : Fits wd o) {fs : List (Int × Fct)} (hg : ∀ p ∈ fs, GF p.2) : Fits wd (holdF wd g d o fs).2 := by
  unfold holdF
  generalize (-1 : Int) = z
  induction fs generalizing z o with
  | nil => exact ho
  | cons p fs ih =>
    rw [List.foldl_cons]
    have h1 : ∃ z' o', sel wd g d p.2 (z, o) = (z', o') ∧ Fits wd o' := by
      unfold sel
      split
      · rename_i g' d' x e
        split
        · rename_i c
          refine ⟨_, _, rfl, ?_⟩
          obtain ⟨g2, d2, x2, ef, _, hf⟩ := gf_hold (hg p List.mem_cons_self) (by rw [c.1]; exact hw)
          rw [ef] at e
          injection e with _ e
          injection e with _ e
          injection e with e _
          rw [c.1] at hf
          rw [← e]
          exact hf
        · exact ⟨_, _, rfl, ho⟩
      · exact ⟨_, _, rfl, ho⟩
    obtain ⟨z', o', e, hf⟩ := h1
    rw [e]
    exact ih hf (fun q hq => hg q (List.mem_cons_of_mem _ hq)) z'
theorem fits_board {x : Arg} (h : Fits "board" x) : ∃ gs, x = .t gs ∧ Rising gs ∧ ∀ y ∈ gs, R 0 7 y := by
  unfold Fits at h
  rw [if_pos rfl] at h
  exact h
theorem hold_board {g d : Int} {fs : List (Int × Fct)} (h : GFs fs) : ∃ gs, (holdF "board" g d (.t []) fs).2 = .t gs ∧ Rising gs ∧ ∀ y ∈ gs, R 0 7 y :=
  fits_board (hold_fits (.inr (.inl rfl)) (fits_yes List.Pairwise.nil (fun y h => by cases h)) h.good)
theorem hold_int {wd : Str} {g d : Int} {fs : List (Int × Fct)} (h : GFs fs) (hw : Wd wd) (nb : wd ≠ "board") : ∃ n, (holdF wd g d (.i 0) fs).2 = .i n := by
  have z := hold_fits (g := g) (d := d) hw (fits_no nb 0) h.good
  unfold Fits at z
  rw [if_neg nb] at z
  exact z
def Brd (g d : Int) (fs : List (Int × Fct)) (ns : List Int) : Prop := Rising ns ∧ ∀ x : Int, x ∈ ns ↔ x = g ∨ ∃ gs, (holdF "board" g d (.t []) fs).2 = .t gs ∧ x ∈ gs
def spBrd (K : PySem.W.Frag) (tup : Bool) : Sp := fun vs H Q _ => ∃ (l : Addr) (g d : Int) (fs : List (Int × Fct)), vs = [.ref l, .int g, .int d] ∧ RL K H l fs ∧ GFs fs ∧ R 0 7 g ∧ ∀ p ns H', Ex H H' → Brd g d fs ns → H' p = some (if tup then .tup (ns.map V.int) else .lst (ns.map V.int)) → Q (.ref p) H'
theorem len_rising : ∀ {gs : List Int} {n : Nat} {a : Int}, Rising gs → (∀ y ∈ gs, a ≤ y ∧ y < a + n) → gs.length ≤ n
  | [], n, a, _, _ => Nat.zero_le _
  | x :: gs, 0, a, _, h => by
    have := h x List.mem_cons_self
    omega
  | x :: gs, n + 1, a, hr, h => by
    unfold Rising at hr
    rw [List.pairwise_cons] at hr
    have hx := h x List.mem_cons_self
    have := len_rising (gs := gs) (n := n) (a := a + 1) hr.2 fun y hy => by
      have h1 := hr.1 y hy
      have h2 := h y (List.mem_cons_of_mem _ hy)
      omega
    rw [List.length_cons]
    omega
theorem sc_p_board_on : FnScope ["facts", "gate", "day", "named"] ["facts", "gate", "day"] (defScope s_p_board_on) :=
  ⟨rfl, rfl, rfl, by decide +kernel, rfl, by decide +kernel, by decide +kernel⟩
theorem ok_p_board_on (T : Tx K mg) : FnOk P w K mg base CX0 2 T.f_p_board_on T.d_p_board_on ["facts", "gate", "day"] (spBrd K true) := by
  refine T.F_p_board_on.ok sc_p_board_on (fun vs H Q E h => ?_) (fun cdv A outer s H vs Q E hr h => ?_)
  · obtain ⟨l, g, d, fs, rfl, _⟩ := h
    rfl
  · obtain ⟨l, g, d, fs, rfl, rl, gfs, hg, k⟩ := h
    refine ⟨_, (pss_cons (ps_set (i := 3) sc_p_board_on.nd rfl (Or.inl rfl) (pe_call (ok_p_holding T) (hr.mono (by decide)) rfl T.g_p_holding T.F_p_holding.kp T.b_p_holding .nil pass0 (pa_cons (pv 0) (pa_cons pe_str (pa_cons (pv 1) (pa_cons (pv 2) (pa_cons (pe_tup pa_nil) pa_nil))))))) (pss_one (ps_ret (pe_callTy (r := rTupleOf K) cz_tupleOf (by rfl) T.z_tuple (by decide +kernel) (pa_cons (pe_callB (cr_sortedSet rfl) (by rfl) T.z_sorted (by decide +kernel) (pa_cons (pe_callTy (cr_setL rfl) (by rfl) T.z_set (by decide +kernel) (pa_cons (pe_lst (pa_cons (pv 1) (pa_starT (pv 3) pa_nil))) pa_nil)) pa_nil)) pa_nil))))), ?_⟩
    refine at_start (ρ' := [some _, some _, some _, none]) rfl ?_
    walk_at "z0"
    walk_at "z"
    rename_i t0 H1 _ e1 ht0
    refine use_hold (rl_ex e1 rl) gfs (.inr (.inl rfl)) (.t (l := []) (SqT.of ht0)) fun v H2 e2 hv => ?_
    obtain ⟨gs, eg, hgr, hgb⟩ := hold_board (g := g) (d := d) gfs
    rw [eg] at hv
    cases hv with
    | t hn =>
    walk_at "z"
    have hlen : gs.length ≤ 8 := len_rising (n := 8) (a := 0) hgr fun y hy => by
      have h := hgb y hy
      exact ⟨h.1, by have := h.2; omega⟩
    refine s_star ?_
    walk_at "z"
    refine ⟨_, _, rfl, hn, ?_⟩
    refine s_nil ?_
    refine s_newS (sz (by simp; omega)) fun q H3 _ e3 hq => ?_
    rw [List.append_nil] at hq
    walk_at "z"
    refine s_setOf (ns := g :: gs) (SqL.of hq) (by unfold scanBound; simp; omega) fun p S m H4 _ e4 hp hm hx => ?_
    walk_at "z"
    refine s_sortedSet hp (by simp at hm; omega) fun ns r H5 hns hns2 hl5 _ e5 hr5 => ?_
    walk_at "z"
    rename_i u H6 _ e6 hu
    refine k u ns H6 (by walk_at "zex") ⟨hns, fun x => ?_⟩ hu
    rw [hns2, hx, List.mem_cons, eg]
    exact ⟨fun h => h.imp id fun h => ⟨gs, rfl, h⟩, fun h => h.imp id fun ⟨gs', e, h⟩ => by
      injection e with e
      rw [e]
      exact h⟩
theorem inV_ints (x : Int) (gs : List Int) : inV (.int x) (gs.map V.int) = decide (x ∈ gs) := by
  unfold inV
  rw [List.any_map]
  induction gs with
  | nil => rfl
  | cons y gs ih =>
    rw [List.any_cons, ih]
    show ((y == x) || _) = _
    by_cases h : y = x
    · subst h
      simp
    · have : ¬ x = y := fun z => h z.symm
      simp [h, this]
theorem flat_ints (gs : List Int) : (gs.map V.int).all flatV = true := by
  rw [List.all_map]
  exact List.all_eq_true.mpr fun _ _ => rfl
theorem sc_l_clears : FnScope ["_law_facts_here", "_law_gate_here", "_law_day_here", "_law_named", "_law_one"] ["_law_facts_here", "_law_gate_here", "_law_day_here"] (defScope s_l_clears) :=
  ⟨rfl, rfl, rfl, by decide +kernel, rfl, by decide +kernel, by decide +kernel⟩
theorem ok_l_clears (T : Tx K mg) : FnOk P w K mg base CX0 2 T.f_l_clears T.d_l_clears ["_law_facts_here", "_law_gate_here", "_law_day_here"] (spBrd K false) := by
  refine T.F_l_clears.ok sc_l_clears (fun vs H Q E h => ?_) (fun cdv A outer s H vs Q E hr h => ?_)
  · obtain ⟨l, g, d, fs, rfl, _⟩ := h
    rfl
  · obtain ⟨l, g, d, fs, rfl, rl, gfs, hg, k⟩ := h
    refine ⟨_, (pss_cons (ps_set (i := 3) sc_l_clears.nd rfl (Or.inr rfl) (pe_call (ok_l_hold T) (hr.mono (by decide)) rfl T.g_l_hold T.F_l_hold.kp T.b_l_hold .nil pass0 (pa_cons (pv 0) (pa_cons pe_str (pa_cons (pv 1) (pa_cons (pv 2) (pa_cons (pe_tup pa_nil) pa_nil))))))) (pss_one (ps_ret (pe_lc (own := [("_law_one", 4)]) (by rfl) sc_l_clears.nd (pi_range1 (by rfl) T.z_range (pa_cons pe_int pa_nil)) (blkOk_by (own := [("_law_one", 4)]) (N := ["_law_facts_here", "_law_gate_here", "_law_day_here", "_law_named", "_law_one"]) (sc := defScope s_l_clears) (by decide +kernel)) (fun _ _ _ _ _ => (pg_name (i := 4) sc_l_clears.nd rfl (Or.inl rfl))) (fun _ _ _ _ _ => (pts_one (PW.pt (pw_or (pt_cmpR (r := rIn K false) op_in_seq (pv 4) (pv 3) (by rfl)) (pw_or1 (pt_cmpR op_eq (pv 4) (pv 1) (nomark _))))))) (fun _ _ _ _ _ => (pv 4)))))), ?_⟩
    refine at_start (ρ' := [some _, some _, some _, none, none]) rfl ?_
    walk_at "z0"
    walk_at "z"
    rename_i t0 H1 _ e1 ht0
    refine use_hold (rl_ex e1 rl) gfs (.inr (.inl rfl)) (.t (l := []) (SqT.of ht0)) fun v H2 e2 hv => ?_
    obtain ⟨gs, eg, hgr, hgb⟩ := hold_board (g := g) (d := d) gfs
    rw [eg] at hv
    cases hv with
    | t hn =>
    walk_at "z"
    refine c_range (by decide) (fun D H' => H2 D = none ∧ Ex H2 H') (fun D i l H' => ∃ ns : List Int, l = ns.map V.int ∧ Rising ns ∧ ∀ x : Int, x ∈ ns ↔ (x = g ∨ x ∈ gs) ∧ x < i) (fun D H' n e _ => ⟨⟨n, e⟩, [], rfl, List.Pairwise.nil, fun x => ⟨fun h => (by cases h), fun h => (by
      exfalso
      rcases h with ⟨rfl | h, h2⟩
      · have := hg.1; omega
      · have := (hgb x h).1; omega)⟩⟩) (fun D i l H3 hi Iv hl hz r => ?_) (fun D l H3 Iv hl hz r => ?_)
    · obtain ⟨nD, e3⟩ := Iv
      obtain ⟨ns, rfl, hr1, hm⟩ := r
      refine ⟨rfl, ?_⟩
      walk_at "z"
      refine s_rInSeq (.inr (e3.sqT hn)) rfl (flat_ints gs) ?_
      rw [inV_ints]
      walk_at "z"
      have put : ((i : Int) = g ∨ (i : Int) ∈ gs) → ∃ ms : List Int, ns.map V.int ++ [V.int i] = ms.map V.int ∧ Rising ms ∧ ∀ x : Int, x ∈ ms ↔ (x = g ∨ x ∈ gs) ∧ x < ((i + 1 : Nat) : Int) := fun h => by
        refine ⟨ns ++ [(i : Int)], by rw [List.map_append]; rfl, ?_, fun x => ?_⟩
        · refine List.pairwise_append.mpr ⟨hr1, List.pairwise_singleton _ _, fun x hx y hy => ?_⟩
          rw [List.mem_singleton] at hy
          rw [hy]
          exact ((hm x).mp hx).2
        · rw [List.mem_append, List.mem_singleton, hm]
          constructor
          · rintro (⟨h1, h2⟩ | rfl)
            · exact ⟨h1, by omega⟩
            · exact ⟨h, by omega⟩
          · rintro ⟨h1, h2⟩
            by_cases e : x = (i : Int)
            · exact .inr e
            · exact .inl ⟨h1, by omega⟩
      have skip : ¬ ((i : Int) = g ∨ (i : Int) ∈ gs) → ∃ ms : List Int, ns.map V.int = ms.map V.int ∧ Rising ms ∧ ∀ x : Int, x ∈ ms ↔ (x = g ∨ x ∈ gs) ∧ x < ((i + 1 : Nat) : Int) := fun h => by
        refine ⟨ns, rfl, hr1, fun x => ?_⟩
        rw [hm]
        constructor
        · rintro ⟨h1, h2⟩
          exact ⟨h1, by omega⟩
        · rintro ⟨h1, h2⟩
          refine ⟨h1, ?_⟩
          have : x ≠ (i : Int) := fun e => h (by rw [← e]; exact h1)
          omega
      refine ite_dec (fun h1 => ?_) (fun h1 => ?_)
      · walk_at "z"
        exact c_put hl (by omega) fun H5 f5 _ => ⟨⟨nD, fun a o h => f5 a o (ne_of_none h nD) (e3 _ _ h)⟩, put (.inr h1)⟩
      · walk_at "z"
        refine ite_dec (fun h2 => ?_) (fun h2 => ?_)
        · walk_at "z"
          exact c_put hl (by omega) fun H5 f5 _ => ⟨⟨nD, fun a o h => f5 a o (ne_of_none h nD) (e3 _ _ h)⟩, put (.inl h2)⟩
        · walk_at "z"
          exact c_skip hl hz ⟨nD, e3⟩ (skip fun h => h.elim h2 h1)
    · obtain ⟨nD, e3⟩ := Iv
      obtain ⟨ns, rfl, hr1, hm⟩ := r
      walk_at "z"
      refine k D ns H3 (by walk_at "zex") ⟨hr1, fun x => ?_⟩ hl
      rw [hm, eg]
      constructor
      · rintro ⟨h1, h2⟩
        exact h1.imp id fun h => ⟨gs, rfl, h⟩
      · intro h
        have h' : x = g ∨ x ∈ gs := h.imp id fun ⟨gs', e, h⟩ => by
          injection e with e
          rw [e]
          exact h
        refine ⟨h', ?_⟩
        rcases h' with rfl | h'
        · have := hg.2
          show _ < (8 : Int)
          omega
        · have := (hgb x h').2
          show _ < (8 : Int)
          omega

theorem rising_ext : ∀ {a b : List Int}, Rising a → Rising b → (∀ x, x ∈ a ↔ x ∈ b) → a = b
  | [], [], _, _, _ => rfl
  | [], y :: b, _, _, h => absurd ((h y).mpr List.mem_cons_self) (by simp)
  | x :: a, [], _, _, h => absurd ((h x).mp List.mem_cons_self) (by simp)
  | x :: a, y :: b, ha, hb, h => by
    unfold Rising at ha hb
    rw [List.pairwise_cons] at ha hb
    have e : x = y := by
      have h1 := (h x).mp List.mem_cons_self
      have h2 := (h y).mpr List.mem_cons_self
      rw [List.mem_cons] at h1 h2
      rcases h1 with h1 | h1
      · exact h1
      · rcases h2 with h2 | h2
        · exact h2.symm
        · have := hb.1 x h1
          have := ha.1 y h2
          omega
    subst e
    rw [rising_ext ha.2 hb.2 fun z => ?_]
    constructor
    · intro hz
      have h1 := (h z).mp (List.mem_cons_of_mem _ hz)
      rw [List.mem_cons] at h1
      rcases h1 with rfl | h1
      · have := ha.1 z hz
        omega
      · exact h1
    · intro hz
      have h1 := (h z).mpr (List.mem_cons_of_mem _ hz)
      rw [List.mem_cons] at h1
      rcases h1 with rfl | h1
      · have := hb.1 z hz
        omega
      · exact h1
theorem brd_eq {g d : Int} {fs : List (Int × Fct)} {a b : List Int} (ha : Brd g d fs a) (hb : Brd g d fs b) : a = b := rising_ext ha.1 hb.1 fun x => (ha.2 x).trans (hb.2 x).symm
theorem brd_len {g d : Int} {fs : List (Int × Fct)} {a : List Int} (ha : Brd g d fs a) (hg : R 0 7 g) (gf : GFs fs) : a.length ≤ 8 := by
  refine len_rising (n := 8) (a := 0) ha.1 fun y hy => ?_
  obtain ⟨gs, eg, _, hgb⟩ := hold_board (g := g) (d := d) gf
  rcases (ha.2 y).mp hy with rfl | ⟨gs', e, h⟩
  · exact ⟨hg.1, by have := hg.2; omega⟩
  · rw [eg] at e
    injection e with e
    rw [← e] at h
    have := hgb y h
    exact ⟨this.1, by have := this.2; omega⟩
theorem dok_ints' (l : List Int) (h : l.length ≤ 1000) : DOk 3 (.tuple (l.map PyData.int)) := by
  refine ⟨by rw [List.length_map]; exact h, fun d hd => ?_⟩
  obtain ⟨n, _, rfl⟩ := List.mem_map.mp hd
  trivial
/-! the facts are plain data, two deep -/
theorem lay_ints : ∀ l : List Int, PyData.canLayAll0 (l.map PyData.int) = true ∧ PyData.depthAll (l.map PyData.int) ≤ 1
  | [] => ⟨rfl, by decide⟩
  | x :: l => by
    obtain ⟨h1, h2⟩ := lay_ints l
    rw [List.map_cons]
    exact ⟨by unfold PyData.canLayAll0; rw [h1]; rfl, by unfold PyData.depthAll; unfold PyData.depth; omega⟩
theorem lay_arg (x : Arg) : PyData.canLay0 x.enc = true ∧ PyData.depth x.enc ≤ 2 := by
  cases x with
  | i n => exact ⟨rfl, by unfold Arg.enc PyData.depth; omega⟩
  | t l =>
    obtain ⟨h1, h2⟩ := lay_ints l
    unfold Arg.enc
    exact ⟨h1, by unfold PyData.depth; omega⟩
theorem lay_args : ∀ l : List Arg, PyData.canLayAll0 (l.map Arg.enc) = true ∧ PyData.depthAll (l.map Arg.enc) ≤ 2
  | [] => ⟨rfl, by decide⟩
  | x :: l => by
    obtain ⟨h1, h2⟩ := lay_args l
    obtain ⟨h3, h4⟩ := lay_arg x
    rw [List.map_cons]
    exact ⟨by unfold PyData.canLayAll0; rw [h1, h3]; rfl, by unfold PyData.depthAll; omega⟩
theorem lay_fct {f : Fct} (h : PyData.strOk f.w = true) : PyData.canLay0 f.enc = true ∧ PyData.depth f.enc ≤ 3 := by
  obtain ⟨h1, h2⟩ := lay_args f.xs
  unfold Fct.enc
  refine ⟨?_, ?_⟩
  · unfold PyData.canLay0 PyData.canLayAll0
    rw [h1]
    unfold PyData.canLay0
    rw [h]
    rfl
  · unfold PyData.depth PyData.depthAll
    unfold PyData.depth
    omega
theorem lay_facts : ∀ fs : List (Int × Fct), (∀ p ∈ fs, GF p.2) → PyData.canLayAll0 (fs.map encP) = true ∧ PyData.depthAll (fs.map encP) ≤ 4
  | [], _ => ⟨rfl, by decide⟩
  | p :: fs, hg => by
    obtain ⟨h1, h2⟩ := lay_facts fs fun q hq => hg q (List.mem_cons_of_mem _ hq)
    obtain ⟨h3, h4⟩ := lay_fct (gf_strOk (hg p List.mem_cons_self))
    have h5 : PyData.canLay0 (encP p) = true := by
      unfold encP PyData.canLay0 PyData.canLayAll0 PyData.canLayAll0 PyData.canLayAll0
      rw [h3]
      rfl
    have h6 : PyData.depth (encP p) ≤ 4 := by
      unfold encP
      simp only [PyData.depth, PyData.depthAll]
      omega
    rw [List.map_cons]
    exact ⟨by unfold PyData.canLayAll0; rw [h1, h5]; rfl, by unfold PyData.depthAll; omega⟩
theorem eqv_facts {fs : List (Int × Fct)} (h : GFs fs) : PyData.eqv (.list (fs.map encP)) (.list (fs.map encP)) = true := SeqAt.eqv_refl _ (lay_facts fs h.good).1
theorem shaped_facts {fs : List (Int × Fct)} (h : GFs fs) : SeqAt.shaped (.list (fs.map encP)) = true := by
  obtain ⟨h1, h2⟩ := lay_facts fs h.good
  unfold SeqAt.shaped
  rw [Bool.and_eq_true]
  refine ⟨h1, decide_eq_true ?_⟩
  unfold PyData.depth
  omega
theorem s_neFacts {H : Hp} {Q : VK} {p q : Addr} {fs : List (Int × Fct)} (h1 : RL K H p fs) (h2 : RL K H q fs) (gf : GFs fs) (k : Q (.bl false) H) : rNeD K (.ref p) (.ref q) H Q := by
  have z := shaped_facts gf
  refine ⟨_, _, rl_dp h1, rl_dp h2, z, z, ?_⟩
  rw [eqv_facts gf]
  exact k
def Lw (K : PySem.W.Frag) (b c l q dd : Addr) (vs : List V) (fs : List (Int × Fct)) (ds : List Int) (H : Hp) : Prop := Bag H b c ∧ (l ≠ b ∧ q ≠ b ∧ dd ≠ b) ∧ H l = some (.lst vs) ∧ H q = some (.lst vs) ∧ H dd = some (.lst (ds.map V.int)) ∧ RFs K H vs fs
section
variable {b c l q dd : Addr} {vs : List V} {fs : List (Int × Fct)} {ds : List Int} {H H' : Hp}
theorem Lw.ext (h : Lw K b c l q dd vs fs ds H) (e : Ex H H') : Lw K b c l q dd vs fs ds H' := by
  obtain ⟨B, n, h1, h2, h3, r⟩ := h
  exact ⟨B.ext e, n, e _ _ h1, e _ _ h2, e _ _ h3, rfs_ex e r⟩
theorem Lw.fr (h : Lw K b c l q dd vs fs ds H) (e : Fr b H H') (B' : Bag H' b c) : Lw K b c l q dd vs fs ds H' := by
  obtain ⟨B, n, h1, h2, h3, r⟩ := h
  exact ⟨B', n, e _ _ n.1 h1, e _ _ n.2.1 h2, e _ _ n.2.2 h3, rfs_pull e B r⟩
theorem Lw.rl (h : Lw K b c l q dd vs fs ds H) : RL K H l fs := by
  obtain ⟨B, n, h1, h2, h3, r⟩ := h
  exact ⟨vs, SqL.of h1, r⟩
theorem Lw.rq (h : Lw K b c l q dd vs fs ds H) : RL K H q fs := by
  obtain ⟨B, n, h1, h2, h3, r⟩ := h
  exact ⟨vs, SqL.of h2, r⟩
end
theorem s_cat {H : Hp} {Q : VK} {l b : Addr} {xs zs : List V} (h1 : H l = some (.lst xs)) (h2 : H b = some (.lst zs)) (hz : xs.length + zs.length ≤ sizeLine) (k : NewO (.lst (xs ++ zs)) H Q) : rCat (.ref l) (.ref b) H Q := ⟨l, b, xs, zs, rfl, rfl, h1, h2, hz, k⟩
theorem wd_of {w : Str} (h : inV (.str w) [.str "toll", .str "board", .str "trust"] = true) : Wd w := by
  unfold inV at h
  simp only [List.any_cons, List.any_nil, Bool.or_false, Bool.or_eq_true] at h
  rcases h with h | h | h
  · exact .inl (eqV_str h).symm
  · exact .inr (.inl (eqV_str h).symm)
  · exact .inr (.inr (eqV_str h).symm)
theorem sc_law : FnScope ["_law_script", "_law_bag_here", "_law_facts_here", "_law_handed", "_law_words", "_law_days", "_law_turn", "_law_gate_here", "_law_day_here", "_law_number", "_law_fact_here"] ["_law_script"] (defScope s_law) :=
  ⟨rfl, rfl, rfl, by decide +kernel, rfl, by decide +kernel, by decide +kernel⟩
theorem ok_law (T : Tx K mg) {f : Addr} {fd : FuncData} (F : Fun K "law" "law" s_law f fd) : FnOk P w K mg base CX0 6 f fd ["_law_script"] (spLaw K) := by
  refine F.ok sc_law (fun vs H Q E h => ?_) (fun cdv A outer s H vs Q E hr h => ?_)
  · obtain ⟨a, ns, rfl, _⟩ := h
    rfl
  · obtain ⟨a, ns, rfl, hS, hl, k⟩ := h
    refine ⟨_, (pss_cons (ps_set (i := 1) sc_law.nd rfl (Or.inl rfl) (pe_call (ok_l_bag T) (hr.mono (by decide)) rfl T.g_l_bag T.F_l_bag.kp T.b_l_bag .nil pass0 (pa_cons (pv 0) pa_nil))) (pss_cons (ps_set (i := 2) sc_law.nd rfl (Or.inl rfl) (pe_call (ok_l_facts T) (hr.mono (by decide)) rfl T.g_l_facts T.F_l_facts.kp T.b_l_facts .nil pass0 (pa_cons (pv 1) (pa_cons pe_int pa_nil)))) (pss_cons (ps_set (i := 3) sc_law.nd rfl (Or.inl rfl) (pe_callTy (r := rListOf K) cz_listOf (by rfl) T.z_list (by decide +kernel) (pa_cons (pv 2) pa_nil))) (pss_cons (ps_set (i := 4) sc_law.nd rfl (Or.inr rfl) (pe_lst (pa_cons pe_str (pa_cons pe_str (pa_cons pe_str pa_nil))))) (pss_cons (ps_set (i := 5) sc_law.nd rfl (Or.inl rfl) (pe_op op_cat (pe_lst (pa_cons pe_int pa_nil)) (pe_lc (own := [("_law_number", 9), ("_law_fact_here", 10)]) (by rfl) sc_law.nd (pi_list (pv 2)) (blkOk_by (own := [("_law_number", 9), ("_law_fact_here", 10)]) (N := ["_law_script", "_law_bag_here", "_law_facts_here", "_law_handed", "_law_words", "_law_days", "_law_turn", "_law_gate_here", "_law_day_here", "_law_number", "_law_fact_here"]) (sc := defScope s_law) (by decide +kernel)) (fun _ _ _ _ _ => (pg_tupK (K := K) 2 rfl (by rfl) (pgs_cons (pg_name (i := 9) sc_law.nd rfl (Or.inl rfl)) (pgs_cons (pg_name (i := 10) sc_law.nd rfl (Or.inl rfl)) pgs_nil)))) (fun _ _ _ _ _ => (pts_one (pt_cmpR (r := rIn K false) op_in_seq (pe_ix (r := rIxT K) ix_tup (pv 10) pe_int (fun _ _ => rfl)) (pv 4) (by rfl)))) (fun _ _ _ _ _ => (pe_ix (r := rIxT K) ix_tup (pv 10) pe_int (fun _ _ => rfl)))))) (pss_cons (ps_for PassesOwn.never rfl (pi_range1 (by rfl) T.z_range (pa_cons pe_int pa_nil)) (pg_name (i := 6) sc_law.nd rfl (Or.inl rfl)) (pss_cons (ps_set (i := 7) sc_law.nd rfl (Or.inl rfl) (pe_call (ok_l_gate T) (hr.mono (by decide)) rfl T.g_l_gate T.F_l_gate.kp T.b_l_gate .nil pass0 (pa_cons (pv 1) pa_nil))) (pss_cons (ps_set (i := 8) sc_law.nd rfl (Or.inl rfl) (pe_call (ok_l_day T) (hr.mono (by decide)) rfl T.g_l_day T.F_l_day.kp T.b_l_day .nil pass0 (pa_cons (pv 1) pa_nil))) (Evl.pss_cut (ps_if (pt_cmpR op_eq (pe_call (ok_l_pull T) (hr.mono (by decide)) rfl T.g_l_pull T.F_l_pull.kp T.b_l_pull .nil pass0 (pa_cons (pv 1) (pa_cons pe_int pa_nil))) pe_int (nomark _)) (pss_one (ps_set (i := 8) sc_law.nd rfl (Or.inl rfl) (pe_callB (cz_max2 rfl) (by rfl) T.z_max (by decide +kernel) (pa_cons pe_int (pa_cons (pe_op op_sub (pe_ix (r := rIxL K) ix_list (pv 5) (pe_call (ok_l_pull T) (hr.mono (by decide)) rfl T.g_l_pull T.F_l_pull.kp T.b_l_pull .nil pass0 (pa_cons (pv 1) (pa_cons (pe_callB (r := Z.rLen K) cz_len (by rfl) T.z_len PySem.boot_len (pa_cons (pv 5) pa_nil)) pa_nil))) (fun _ _ => rfl)) (pe_call (ok_l_pull T) (hr.mono (by decide)) rfl T.g_l_pull T.F_l_pull.kp T.b_l_pull .nil pass0 (pa_cons (pv 1) (pa_cons pe_int pa_nil)))) pa_nil))))) pss_nil) (pss_cons (ps_if (pt_not (pt_val (pe_call (ok_l_like T 3) (hr.mono (by decide)) rfl T.g_l_like T.F_l_like.kp T.b_l_like .nil pass0 (pa_cons (pe_call (ok_p_toll_on T) (hr.mono (by decide)) rfl T.g_p_toll_on T.F_p_toll_on.kp T.b_p_toll_on .nil pass0 (pa_cons (pv 3) (pa_cons (pv 7) (pa_cons (pv 8) pa_nil)))) (pa_cons (pe_call (ok_l_hold T) (hr.mono (by decide)) rfl T.g_l_hold T.F_l_hold.kp T.b_l_hold .nil pass0 (pa_cons (pv 2) (pa_cons pe_str (pa_cons (pv 7) (pa_cons (pv 8) (pa_cons pe_int pa_nil)))))) pa_nil))))) (pss_one (ps_ret pe_bl)) pss_nil) (pss_cons (ps_if (pt_not (pt_val (pe_call (ok_l_like T 3) (hr.mono (by decide)) rfl T.g_l_like T.F_l_like.kp T.b_l_like .nil pass0 (pa_cons (pe_call (ok_p_trust_on T) (hr.mono (by decide)) rfl T.g_p_trust_on T.F_p_trust_on.kp T.b_p_trust_on .nil pass0 (pa_cons (pv 3) (pa_cons (pv 7) (pa_cons (pv 8) pa_nil)))) (pa_cons (pe_call (ok_l_hold T) (hr.mono (by decide)) rfl T.g_l_hold T.F_l_hold.kp T.b_l_hold .nil pass0 (pa_cons (pv 2) (pa_cons pe_str (pa_cons (pv 7) (pa_cons (pv 8) (pa_cons pe_int pa_nil)))))) pa_nil))))) (pss_one (ps_ret pe_bl)) pss_nil) (pss_cons (ps_if (pt_not (pt_val (pe_call (ok_l_like T 3) (hr.mono (by decide)) rfl T.g_l_like T.F_l_like.kp T.b_l_like .nil pass0 (pa_cons (pe_call (ok_p_board_on T) (hr.mono (by decide)) rfl T.g_p_board_on T.F_p_board_on.kp T.b_p_board_on .nil pass0 (pa_cons (pv 3) (pa_cons (pv 7) (pa_cons (pv 8) pa_nil)))) (pa_cons (pe_callTy (r := rTupleOf K) cz_tupleOf (by rfl) T.z_tuple (by decide +kernel) (pa_cons (pe_call (ok_l_clears T) (hr.mono (by decide)) rfl T.g_l_clears T.F_l_clears.kp T.b_l_clears .nil pass0 (pa_cons (pv 2) (pa_cons (pv 7) (pa_cons (pv 8) pa_nil)))) pa_nil)) pa_nil))))) (pss_one (ps_ret pe_bl)) pss_nil) (pss_one (ps_if (pt_cmpR (r := rNeD K) (op_neD hr.units) (pv 3) (pv 2) (nomark _)) (pss_one (ps_ret pe_bl)) pss_nil))))))))) (pss_one (ps_ret pe_bl)))))))), ?_⟩
    refine at_start (ρ' := [some _, none, none, none, none, none, none, none, none, none, none]) rfl ?_
    walk_at "z0"
    walk_at "z"
    refine ⟨a, ns, rfl, hS, hl, fun b c H1 nb nc e1 B => ?_⟩
    walk_at "z"
    refine ⟨b, c, 30, rfl, by decide, by decide, B, fun l vs fs H2 nl hL rf gf hlen B2 f2 => ?_⟩
    have lb : l ≠ b := B.neb nl
    have lc : l ≠ c := B.nec nl
    walk_at "z"
    rename_i q H3 nq e3 hq wl H4 _ e4 hwl z0 H5 nz e5 hz0
    have e25 : Ex H2 H5 := (e3.trans e4).trans e5
    have hL5 := e25 _ _ hL
    have rf5 := rfs_ex e25 rf
    have hwl5 := e5 _ _ hwl
    have lenv := rfs_len rf
    refine c_list vs (SqL.of hL5) (fun D H' => H5 D = none ∧ Ex H5 H') (fun D i l H' => ∃ ds : List Int, l = ds.map V.int) (fun D H' n e _ => ⟨⟨n, e⟩, [], rfl⟩) (fun D H' Iv => SqL.of (Iv.2 _ _ hL5)) (fun D i acc H6 x hx Iv hl hz r => ?_) (fun D acc H6 Iv hl hz r => ?_)
    · obtain ⟨nD, e6⟩ := Iv
      obtain ⟨ds, rfl⟩ := r
      obtain ⟨p, n, u, f, hfi, rfl, hp, a, us, rfl, ha, hu⟩ := rfs_get (rfs_ex e6 rf5) hx
      have g1 := gf.good _ (List.mem_of_getElem? hfi)
      have hi : i < vs.length := (List.getElem?_eq_some_iff.mp hx).1
      walk_at "z"
      refine ⟨rfl, ?_⟩
      walk_at "z"
      refine s_ixT ha (at0 _ _) ?_
      walk_at "z"
      refine s_rInSeq (.inl (SqL.of (e6 _ _ hwl5))) rfl rfl ?_
      walk_at "z"
      refine ite_both (fun h1 => ?_) (fun h1 => ?_)
      · obtain ⟨g', d', x, ef, _, _⟩ := gf_hold g1 (wd_of h1)
        dsimp only at ef
        rw [ef] at hu
        obtain ⟨v3, rfl, hx3⟩ := fds3 hu
        walk_at "z"
        exact c_put hl (by omega) fun H7 f7 _ => ⟨⟨nD, fun a o h => f7 a o (ne_of_none h nD) (e6 _ _ h)⟩, ds ++ [d'], by rw [List.map_append]; rfl⟩
      · walk_at "z"
        exact c_skip hl hz ⟨nD, e6⟩ ⟨ds, rfl⟩
    · obtain ⟨nD, e6⟩ := Iv
      obtain ⟨ds, rfl⟩ := r
      rw [List.length_map] at hz
      refine s_cat (e6 _ _ hz0) hl (sz (by simp; omega)) ?_
      refine s_new fun dd H7 nd e7 hdd => ?_
      have e27 : Ex H2 H7 := (e25.trans e6).trans e7
      obtain ⟨es, hes, hes1, hes2⟩ : ∃ es : List Int, [V.int 0] ++ ds.map V.int = es.map V.int ∧ 1 ≤ es.length ∧ es.length ≤ 31 := ⟨0 :: ds, rfl, by simp, by simp; omega⟩
      rw [hes] at hdd
      have W : Lw K b c l q dd vs fs es H7 := ⟨B2.ext e27, ⟨lb, B2.neb nq, ((B2.ext e25).ext e6).neb nd⟩, e27 _ _ hL, (((e4.trans e5).trans e6).trans e7) _ _ hq, hdd, rfs_ex e27 rf⟩
      walk_at "z"
      refine l_range (by decide) (fun i σ H' => ∃ v6 v7 v8 v9 v10, σ = [some (.ref a), some (.ref b), some (.ref l), some (.ref q), some (.ref wl), some (.ref dd), v6, v7, v8, v9, v10] ∧ Lw K b c l q dd vs fs es H') ⟨_, _, _, _, _, rfl, W⟩ (fun i σ H8 hi h => ?_) (fun σ H8 h => ?_)
      · obtain ⟨v6, v7, v8, v9, v10, rfl, W8⟩ := h
        have B8 := W8.1
        walk_at "z"
        rename_i g H9 g0 g1 B9 f9 dy H10 dy0 dy1 B10 f10
        have W10 : Lw K b c l q dd vs fs es H10 := (W8.fr f9 B9).fr f10 B10
        clear f9 B9 f10 B8 W8 W
        refine s_cut (fun ρ H' => ∃ d, ρ = [some (.ref a), some (.ref b), some (.ref l), some (.ref q), some (.ref wl), some (.ref dd), some (.int i), some (.int g), some (.int d), v9, v10] ∧ Lw K b c l q dd vs fs es H') ?_ fun ρ H11 h => ?_
        · walk_at "z"
          rename_i z H11 z0 z1 B11 f11
          have W11 := W10.fr f11 B11
          refine ite_dec (fun h1 => ?_) (fun h1 => ?_)
          · obtain ⟨B11, ⟨l11, q11, d11⟩, hL11, hQ11, hD11, r11⟩ := id W11
            walk_at "z"
            rename_i y H12 y0 y1 B12 f12
            refine s_ixP (fun v => ∃ n : Int, v = .int n) (SqL.of (f12 _ _ d11 hD11)) ⟨y0, y1⟩ (fun v hv => by
              obtain ⟨n, _, e⟩ := List.mem_map.mp hv
              exact ⟨n, e.symm⟩) fun v ⟨n, e⟩ => ?_
            subst e
            walk_at "z"
            rename_i x H13 _ _ B13 f13
            exact ⟨_, rfl, (W11.fr f12 B12).fr f13 B13⟩
          · walk_at "z"
            exact ⟨_, rfl, W11⟩
        · obtain ⟨d, rfl, W11⟩ := h
          have hg : R 0 7 g := ⟨g0, g1⟩
          walk_at "z"
          refine ⟨q, g, d, fs, rfl, W11.rq, gf, fun v1 H12 e12 hv1 => ?_⟩
          walk_at "z"
          refine use_hold (rl_ex e12 W11.rl) gf (.inl rfl) (.i 0) fun v2 H13 e13 hv2 => ?_
          obtain ⟨n, en⟩ := hold_int (g := g) (d := d) gf (.inl rfl) ne_toll_board
          rw [en] at hv1 hv2
          cases hv1
          cases hv2
          walk_at "z"
          refine ⟨_, _, _, rfl, .int n, .int n, trivial, fun H14 e14 => ?_⟩
          have W14 := ((W11.ext e12).ext e13).ext e14
          walk_at "z"
          refine ⟨q, g, d, fs, rfl, W14.rq, gf, fun v1 H15 e15 hv1 => ?_⟩
          walk_at "z"
          refine use_hold (rl_ex e15 W14.rl) gf (.inr (.inr rfl)) (.i 0) fun v2 H16 e16 hv2 => ?_
          obtain ⟨n, en⟩ := hold_int (g := g) (d := d) gf (.inr (.inr rfl)) ne_trust_board
          rw [en] at hv1 hv2
          cases hv1
          cases hv2
          walk_at "z"
          refine ⟨_, _, _, rfl, .int n, .int n, trivial, fun H17 e17 => ?_⟩
          have W17 := ((W14.ext e15).ext e16).ext e17
          walk_at "z"
          refine ⟨q, g, d, fs, rfl, W17.rq, gf, hg, fun p1 ns1 H18 e18 hb1 hp1 => ?_⟩
          walk_at "z"
          refine ⟨l, g, d, fs, rfl, rl_ex e18 W17.rl, gf, hg, fun p2 ns2 H19 e19 hb2 hp2 => ?_⟩
          rw [brd_eq hb2 hb1] at hp2
          walk_at "z"
          rename_i p3 H20 _ e20 hp3
          refine ⟨_, _, .tuple (ns1.map PyData.int), rfl, .tup (SqT.of (e20 _ _ (e19 _ _ hp1))) (dp_ints _), .tup (SqT.of hp3) (dp_ints _), dok_ints' _ (by have := brd_len hb1 hg gf; omega), fun H21 e21 => ?_⟩
          have W21 := (((W17.ext e18).ext e19).ext e20).ext e21
          walk_at "z"
          refine s_neFacts W21.rq W21.rl gf ?_
          walk_at "z"
          exact ⟨_, _, _, _, _, rfl, W21⟩
      · obtain ⟨v6, v7, v8, v9, v10, rfl, W8⟩ := h
        walk_at "z"
        exact k _

end
theorem all_mk {l : PySem.W.OpenLaw} {w : World} {K : PySem.W.Frag} {h : Heap} {mg : Str → Option Value} {fa f0 f1 f2 f3 f4 f5 f6 f7 f8 f9 f10 f11 f12 f13 f14 f15 fL : Addr} (X : K.In h) (G : h.Ns mainGlobals mg) (hfa : mg "law" = some (.ref fa))
    {od0 an0 od1 an1 od2 an2 od3 an3 od4 an4 od5 an5 od6 an6 od7 an7 od8 an8 od9 an9 od10 an10 od11 an11 od12 an12 od13 an13 od14 an14 od15 an15 odL anL : Option Addr} {sl0 sl1 sl2 sl3 sl4 sl5 sl6 sl7 sl8 sl9 sl10 sl11 sl12 sl13 sl14 sl15 slL : Array (Option Value)} {oc0 kV0 dc0 pm0 cd0 ct0 oc1 kV1 dc1 pm1 cd1 ct1 oc2 kV2 dc2 pm2 cd2 ct2 oc3 kV3 dc3 pm3 cd3 ct3 oc4 kV4 dc4 pm4 cd4 ct4 oc5 kV5 dc5 pm5 cd5 ct5 oc6 kV6 dc6 pm6 cd6 ct6 oc7 kV7 dc7 pm7 cd7 ct7 oc8 kV8 dc8 pm8 cd8 ct8 oc9 kV9 dc9 pm9 cd9 ct9 oc10 kV10 dc10 pm10 cd10 ct10 oc11 kV11 dc11 pm11 cd11 ct11 oc12 kV12 dc12 pm12 cd12 ct12 oc13 kV13 dc13 pm13 cd13 ct13 oc14 kV14 dc14 pm14 cd14 ct14 oc15 kV15 dc15 pm15 cd15 ct15 ocL kVL dcL pmL cdL ctL : Value}
    (a0 : PySem.W.nsIn K mainGlobals "holding" = some (some (.ref f0)))
    (l0 : K.lookup f0 = some ⟨oc0, od0, .func (PySem.W.fnOf "holding" "holding" (defArgs s_p_holding) (defBody s_p_holding) (defScope s_p_holding) .none kV0 dc0 pm0 an0 cd0 ct0), sl0⟩)
    (c0 : PySem.W.codeIn K cd0 "holding" = true) (k0 : PySem.W.keepIn K (.ref f0) = true)
    (a1 : PySem.W.nsIn K mainGlobals "toll_on" = some (some (.ref f1)))
    (l1 : K.lookup f1 = some ⟨oc1, od1, .func (PySem.W.fnOf "toll_on" "toll_on" (defArgs s_p_toll_on) (defBody s_p_toll_on) (defScope s_p_toll_on) .none kV1 dc1 pm1 an1 cd1 ct1), sl1⟩)
    (c1 : PySem.W.codeIn K cd1 "toll_on" = true) (k1 : PySem.W.keepIn K (.ref f1) = true)
    (a2 : PySem.W.nsIn K mainGlobals "board_on" = some (some (.ref f2)))
    (l2 : K.lookup f2 = some ⟨oc2, od2, .func (PySem.W.fnOf "board_on" "board_on" (defArgs s_p_board_on) (defBody s_p_board_on) (defScope s_p_board_on) .none kV2 dc2 pm2 an2 cd2 ct2), sl2⟩)
    (c2 : PySem.W.codeIn K cd2 "board_on" = true) (k2 : PySem.W.keepIn K (.ref f2) = true)
    (a3 : PySem.W.nsIn K mainGlobals "trust_on" = some (some (.ref f3)))
    (l3 : K.lookup f3 = some ⟨oc3, od3, .func (PySem.W.fnOf "trust_on" "trust_on" (defArgs s_p_trust_on) (defBody s_p_trust_on) (defScope s_p_trust_on) .none kV3 dc3 pm3 an3 cd3 ct3), sl3⟩)
    (c3 : PySem.W.codeIn K cd3 "trust_on" = true) (k3 : PySem.W.keepIn K (.ref f3) = true)
    (a4 : PySem.W.nsIn K mainGlobals "_law_bag" = some (some (.ref f4)))
    (l4 : K.lookup f4 = some ⟨oc4, od4, .func (PySem.W.fnOf "_law_bag" "_law_bag" (defArgs s_l_bag) (defBody s_l_bag) (defScope s_l_bag) .none kV4 dc4 pm4 an4 cd4 ct4), sl4⟩)
    (c4 : PySem.W.codeIn K cd4 "_law_bag" = true) (k4 : PySem.W.keepIn K (.ref f4) = true)
    (a5 : PySem.W.nsIn K mainGlobals "_law_pull" = some (some (.ref f5)))
    (l5 : K.lookup f5 = some ⟨oc5, od5, .func (PySem.W.fnOf "_law_pull" "_law_pull" (defArgs s_l_pull) (defBody s_l_pull) (defScope s_l_pull) .none kV5 dc5 pm5 an5 cd5 ct5), sl5⟩)
    (c5 : PySem.W.codeIn K cd5 "_law_pull" = true) (k5 : PySem.W.keepIn K (.ref f5) = true)
    (a6 : PySem.W.nsIn K mainGlobals "_law_like" = some (some (.ref f6)))
    (l6 : K.lookup f6 = some ⟨oc6, od6, .func (PySem.W.fnOf "_law_like" "_law_like" (defArgs s_l_like) (defBody s_l_like) (defScope s_l_like) .none kV6 dc6 pm6 an6 cd6 ct6), sl6⟩)
    (c6 : PySem.W.codeIn K cd6 "_law_like" = true) (k6 : PySem.W.keepIn K (.ref f6) = true)
    (a7 : PySem.W.nsIn K mainGlobals "_law_gate" = some (some (.ref f7)))
    (l7 : K.lookup f7 = some ⟨oc7, od7, .func (PySem.W.fnOf "_law_gate" "_law_gate" (defArgs s_l_gate) (defBody s_l_gate) (defScope s_l_gate) .none kV7 dc7 pm7 an7 cd7 ct7), sl7⟩)
    (c7 : PySem.W.codeIn K cd7 "_law_gate" = true) (k7 : PySem.W.keepIn K (.ref f7) = true)
    (a8 : PySem.W.nsIn K mainGlobals "_law_day" = some (some (.ref f8)))
    (l8 : K.lookup f8 = some ⟨oc8, od8, .func (PySem.W.fnOf "_law_day" "_law_day" (defArgs s_l_day) (defBody s_l_day) (defScope s_l_day) .none kV8 dc8 pm8 an8 cd8 ct8), sl8⟩)
    (c8 : PySem.W.codeIn K cd8 "_law_day" = true) (k8 : PySem.W.keepIn K (.ref f8) = true)
    (a9 : PySem.W.nsIn K mainGlobals "_law_board" = some (some (.ref f9)))
    (l9 : K.lookup f9 = some ⟨oc9, od9, .func (PySem.W.fnOf "_law_board" "_law_board" (defArgs s_l_board) (defBody s_l_board) (defScope s_l_board) .none kV9 dc9 pm9 an9 cd9 ct9), sl9⟩)
    (c9 : PySem.W.codeIn K cd9 "_law_board" = true) (k9 : PySem.W.keepIn K (.ref f9) = true)
    (a10 : PySem.W.nsIn K mainGlobals "_law_passing" = some (some (.ref f10)))
    (l10 : K.lookup f10 = some ⟨oc10, od10, .func (PySem.W.fnOf "_law_passing" "_law_passing" (defArgs s_l_passing) (defBody s_l_passing) (defScope s_l_passing) .none kV10 dc10 pm10 an10 cd10 ct10), sl10⟩)
    (c10 : PySem.W.codeIn K cd10 "_law_passing" = true) (k10 : PySem.W.keepIn K (.ref f10) = true)
    (a11 : PySem.W.nsIn K mainGlobals "_law_stretch" = some (some (.ref f11)))
    (l11 : K.lookup f11 = some ⟨oc11, od11, .func (PySem.W.fnOf "_law_stretch" "_law_stretch" (defArgs s_l_stretch) (defBody s_l_stretch) (defScope s_l_stretch) .none kV11 dc11 pm11 an11 cd11 ct11), sl11⟩)
    (c11 : PySem.W.codeIn K cd11 "_law_stretch" = true) (k11 : PySem.W.keepIn K (.ref f11) = true)
    (a12 : PySem.W.nsIn K mainGlobals "_law_fact" = some (some (.ref f12)))
    (l12 : K.lookup f12 = some ⟨oc12, od12, .func (PySem.W.fnOf "_law_fact" "_law_fact" (defArgs s_l_fact) (defBody s_l_fact) (defScope s_l_fact) .none kV12 dc12 pm12 an12 cd12 ct12), sl12⟩)
    (c12 : PySem.W.codeIn K cd12 "_law_fact" = true) (k12 : PySem.W.keepIn K (.ref f12) = true)
    (a13 : PySem.W.nsIn K mainGlobals "_law_facts" = some (some (.ref f13)))
    (l13 : K.lookup f13 = some ⟨oc13, od13, .func (PySem.W.fnOf "_law_facts" "_law_facts" (defArgs s_l_facts) (defBody s_l_facts) (defScope s_l_facts) .none kV13 dc13 pm13 an13 cd13 ct13), sl13⟩)
    (c13 : PySem.W.codeIn K cd13 "_law_facts" = true) (k13 : PySem.W.keepIn K (.ref f13) = true)
    (a14 : PySem.W.nsIn K mainGlobals "_law_hold" = some (some (.ref f14)))
    (l14 : K.lookup f14 = some ⟨oc14, od14, .func (PySem.W.fnOf "_law_hold" "_law_hold" (defArgs s_l_hold) (defBody s_l_hold) (defScope s_l_hold) .none kV14 dc14 pm14 an14 cd14 ct14), sl14⟩)
    (c14 : PySem.W.codeIn K cd14 "_law_hold" = true) (k14 : PySem.W.keepIn K (.ref f14) = true)
    (a15 : PySem.W.nsIn K mainGlobals "_law_clears" = some (some (.ref f15)))
    (l15 : K.lookup f15 = some ⟨oc15, od15, .func (PySem.W.fnOf "_law_clears" "_law_clears" (defArgs s_l_clears) (defBody s_l_clears) (defScope s_l_clears) .none kV15 dc15 pm15 an15 cd15 ct15), sl15⟩)
    (c15 : PySem.W.codeIn K cd15 "_law_clears" = true) (k15 : PySem.W.keepIn K (.ref f15) = true)
    (aL : PySem.W.nsIn K mainGlobals "law" = some (some (.ref fL)))
    (lL : K.lookup fL = some ⟨ocL, odL, .func (PySem.W.fnOf "law" "law" (defArgs s_law) (defBody s_law) (defScope s_law) .none kVL dcL pmL anL cdL ctL), slL⟩)
    (cL : PySem.W.codeIn K cdL "law" = true) (kL : PySem.W.keepIn K (.ref fL) = true)
    (z_len : PySem.W.nsIn K mainGlobals "len" = some none)
    (z_isinstance : PySem.W.nsIn K mainGlobals "isinstance" = some none)
    (z_tuple : PySem.W.nsIn K mainGlobals "tuple" = some none)
    (z_list : PySem.W.nsIn K mainGlobals "list" = some none)
    (z_bool : PySem.W.nsIn K mainGlobals "bool" = some none)
    (z_range : PySem.W.nsIn K mainGlobals "range" = some none)
    (z_all : PySem.W.nsIn K mainGlobals "all" = some none)
    (z_int : PySem.W.nsIn K mainGlobals "int" = some none)
    (z_max : PySem.W.nsIn K mainGlobals "max" = some none)
    (z_set : PySem.W.nsIn K mainGlobals "set" = some none)
    (z_sorted : PySem.W.nsIn K mainGlobals "sorted" = some none)
    : ∃ fd : FuncData, (∀ (s : Shared) (v : Value), BindsTo s fd ⟨[v], []⟩ [("_law_script", v)]) ∧ ∀ base : Heap, K.In base → base.Ns mainGlobals mg → FnOk l.prog w K mg base CX0 6 fa fd ["_law_script"] (spLaw K) := by
  have e := hfa.symm.trans (PySem.W.mg_of X G aL)
  cases e
  have F0 := fun_mk (st := s_p_holding) l0 c0 k0
  have b0 := F0.binds (ps := ["facts", "word", "gate", "day", "unsaid"]) fun _ _ _ _ _ _ us hl => match us, hl with | [_, _, _, _, _], _ => rfl
  have F1 := fun_mk (st := s_p_toll_on) l1 c1 k1
  have b1 := F1.binds (ps := ["facts", "gate", "day"]) fun _ _ _ _ _ _ us hl => match us, hl with | [_, _, _], _ => rfl
  have F2 := fun_mk (st := s_p_board_on) l2 c2 k2
  have b2 := F2.binds (ps := ["facts", "gate", "day"]) fun _ _ _ _ _ _ us hl => match us, hl with | [_, _, _], _ => rfl
  have F3 := fun_mk (st := s_p_trust_on) l3 c3 k3
  have b3 := F3.binds (ps := ["facts", "gate", "day"]) fun _ _ _ _ _ _ us hl => match us, hl with | [_, _, _], _ => rfl
  have F4 := fun_mk (st := s_l_bag) l4 c4 k4
  have b4 := F4.binds (ps := ["_law_script"]) fun _ _ _ _ _ _ us hl => match us, hl with | [_], _ => rfl
  have F5 := fun_mk (st := s_l_pull) l5 c5 k5
  have b5 := F5.binds (ps := ["_law_bag_here", "_law_amount"]) fun _ _ _ _ _ _ us hl => match us, hl with | [_, _], _ => rfl
  have F6 := fun_mk (st := s_l_like) l6 c6 k6
  have b6 := F6.binds (ps := ["_law_found", "_law_due"]) fun _ _ _ _ _ _ us hl => match us, hl with | [_, _], _ => rfl
  have F7 := fun_mk (st := s_l_gate) l7 c7 k7
  have b7 := F7.binds (ps := ["_law_bag_here"]) fun _ _ _ _ _ _ us hl => match us, hl with | [_], _ => rfl
  have F8 := fun_mk (st := s_l_day) l8 c8 k8
  have b8 := F8.binds (ps := ["_law_bag_here"]) fun _ _ _ _ _ _ us hl => match us, hl with | [_], _ => rfl
  have F9 := fun_mk (st := s_l_board) l9 c9 k9
  have b9 := F9.binds (ps := ["_law_bag_here"]) fun _ _ _ _ _ _ us hl => match us, hl with | [_], _ => rfl
  have F10 := fun_mk (st := s_l_passing) l10 c10 k10
  have b10 := F10.binds (ps := ["_law_bag_here"]) fun _ _ _ _ _ _ us hl => match us, hl with | [_], _ => rfl
  have F11 := fun_mk (st := s_l_stretch) l11 c11 k11
  have b11 := F11.binds (ps := ["_law_bag_here"]) fun _ _ _ _ _ _ us hl => match us, hl with | [_], _ => rfl
  have F12 := fun_mk (st := s_l_fact) l12 c12 k12
  have b12 := F12.binds (ps := ["_law_bag_here", "_law_amount"]) fun _ _ _ _ _ _ us hl => match us, hl with | [_, _], _ => rfl
  have F13 := fun_mk (st := s_l_facts) l13 c13 k13
  have b13 := F13.binds (ps := ["_law_bag_here", "_law_most"]) fun _ _ _ _ _ _ us hl => match us, hl with | [_, _], _ => rfl
  have F14 := fun_mk (st := s_l_hold) l14 c14 k14
  have b14 := F14.binds (ps := ["_law_facts_here", "_law_word", "_law_gate_here", "_law_day_here", "_law_other"]) fun _ _ _ _ _ _ us hl => match us, hl with | [_, _, _, _, _], _ => rfl
  have F15 := fun_mk (st := s_l_clears) l15 c15 k15
  have b15 := F15.binds (ps := ["_law_facts_here", "_law_gate_here", "_law_day_here"]) fun _ _ _ _ _ _ us hl => match us, hl with | [_, _, _], _ => rfl
  have T : Tx K mg := {
    f_p_holding := _, d_p_holding := _, F_p_holding := F0, g_p_holding := PySem.W.mg_of X G a0, b_p_holding := b0,
    f_p_toll_on := _, d_p_toll_on := _, F_p_toll_on := F1, g_p_toll_on := PySem.W.mg_of X G a1, b_p_toll_on := b1,
    f_p_board_on := _, d_p_board_on := _, F_p_board_on := F2, g_p_board_on := PySem.W.mg_of X G a2, b_p_board_on := b2,
    f_p_trust_on := _, d_p_trust_on := _, F_p_trust_on := F3, g_p_trust_on := PySem.W.mg_of X G a3, b_p_trust_on := b3,
    f_l_bag := _, d_l_bag := _, F_l_bag := F4, g_l_bag := PySem.W.mg_of X G a4, b_l_bag := b4,
    f_l_pull := _, d_l_pull := _, F_l_pull := F5, g_l_pull := PySem.W.mg_of X G a5, b_l_pull := b5,
    f_l_like := _, d_l_like := _, F_l_like := F6, g_l_like := PySem.W.mg_of X G a6, b_l_like := b6,
    f_l_gate := _, d_l_gate := _, F_l_gate := F7, g_l_gate := PySem.W.mg_of X G a7, b_l_gate := b7,
    f_l_day := _, d_l_day := _, F_l_day := F8, g_l_day := PySem.W.mg_of X G a8, b_l_day := b8,
    f_l_board := _, d_l_board := _, F_l_board := F9, g_l_board := PySem.W.mg_of X G a9, b_l_board := b9,
    f_l_passing := _, d_l_passing := _, F_l_passing := F10, g_l_passing := PySem.W.mg_of X G a10, b_l_passing := b10,
    f_l_stretch := _, d_l_stretch := _, F_l_stretch := F11, g_l_stretch := PySem.W.mg_of X G a11, b_l_stretch := b11,
    f_l_fact := _, d_l_fact := _, F_l_fact := F12, g_l_fact := PySem.W.mg_of X G a12, b_l_fact := b12,
    f_l_facts := _, d_l_facts := _, F_l_facts := F13, g_l_facts := PySem.W.mg_of X G a13, b_l_facts := b13,
    f_l_hold := _, d_l_hold := _, F_l_hold := F14, g_l_hold := PySem.W.mg_of X G a14, b_l_hold := b14,
    f_l_clears := _, d_l_clears := _, F_l_clears := F15, g_l_clears := PySem.W.mg_of X G a15, b_l_clears := b15,
    z_len := PySem.W.mg_none_of X G z_len,
    z_isinstance := PySem.W.mg_none_of X G z_isinstance,
    z_tuple := PySem.W.mg_none_of X G z_tuple,
    z_list := PySem.W.mg_none_of X G z_list,
    z_bool := PySem.W.mg_none_of X G z_bool,
    z_range := PySem.W.mg_none_of X G z_range,
    z_all := PySem.W.mg_none_of X G z_all,
    z_int := PySem.W.mg_none_of X G z_int,
    z_max := PySem.W.mg_none_of X G z_max,
    z_set := PySem.W.mg_none_of X G z_set,
    z_sorted := PySem.W.mg_none_of X G z_sorted }
  exact ⟨_, fun s v => .of_eq rfl, fun base _ _ => ok_law T (fun_mk (st := s_law) lL cL kL)⟩
theorem walk {l : PySem.W.OpenLaw} {q : Program} {loose : List Str} {XP : (Str → Option Value) → Heap → Prop} {YP : World → Heap → Prop} {d : DefRec} {K : Params → PySem.W.Frag} (hn : l.most = some 63) (hdf : d.params.defaults = [])
    (hY : ∀ (w : World) (h : Heap), YP w h → (K w.params).In h)
    (F : ∀ (w : World) (mg : Str → Option Value) (fa : Addr) (h : Heap), (K w.params).In h → h.Ns mainGlobals mg → mg d.name = some (.ref fa) →
      ∃ fd : FuncData, (∀ (s : Shared) (u : Value), BindsTo s fd ⟨[u], []⟩ [("_law_script", u)]) ∧ ∀ base : Heap, (K w.params).In base → base.Ns mainGlobals mg → FnOk l.prog w (K w.params) mg base CX0 6 fa fd ["_law_script"] (spLaw (K w.params))) :
    PySem.W.WalkO q loose XP YP l.row.toRowW d [] (fun f vs => PySem.call f vs) :=
  L2.walk_of (n := 63) (k := 6) (x := "_law_script") (CX := fun _ => CX0) (sp := fun w => spLaw (K w.params)) hn (by decide) hdf ⟨rfl, by decide, by decide⟩ hY F (fun _ _ a ns hl _ hS => ⟨a, ns, rfl, hS, hl, fun _ => rfl⟩) fun _ _ _ _ _ z => z
end Q
open PySem PySem.W PyProof.Rows in
set_option maxRecDepth 100000 in
set_option maxHeartbeats 0 in
theorem PySem.Challenge.cw_pikeroll_k06_what_holds_on_a_day_holds : PySem.Challenge.rw_pikeroll_k06_what_holds_on_a_day.Holds := by
  w_on; o_law; k_head; (case hw => w_witness2)
  k_fill
  refine Q.walk (l := PySem.Challenge.rw_pikeroll_k06_what_holds_on_a_day) rfl rfl (fun w h Y => PySem.W.kIn_of Y) ?F
  case F =>
    intro w mg fa h KX G hmg
    refine' Q.all_mk KX G hmg ?a0 ?l0 ?c0 ?k0 ?a1 ?l1 ?c1 ?k1 ?a2 ?l2 ?c2 ?k2 ?a3 ?l3 ?c3 ?k3 ?a4 ?l4 ?c4 ?k4 ?a5 ?l5 ?c5 ?k5 ?a6 ?l6 ?c6 ?k6 ?a7 ?l7 ?c7 ?k7 ?a8 ?l8 ?c8 ?k8 ?a9 ?l9 ?c9 ?k9 ?a10 ?l10 ?c10 ?k10 ?a11 ?l11 ?c11 ?k11 ?a12 ?l12 ?c12 ?k12 ?a13 ?l13 ?c13 ?k13 ?a14 ?l14 ?c14 ?k14 ?a15 ?l15 ?c15 ?k15 ?aL ?lL ?cL ?kL ?z_len ?z_isinstance ?z_tuple ?z_list ?z_bool ?z_range ?z_all ?z_int ?z_max ?z_set ?z_sorted
    (case a0 => k_is)
    (case l0 => k_is)
    (case c0 => k_is)
    (case k0 => k_is)
    (case a1 => k_is)
    (case l1 => k_is)
    (case c1 => k_is)
    (case k1 => k_is)
    (case a2 => k_is)
    (case l2 => k_is)
    (case c2 => k_is)
    (case k2 => k_is)
    (case a3 => k_is)
    (case l3 => k_is)
    (case c3 => k_is)
    (case k3 => k_is)
    (case a4 => k_is)
    (case l4 => k_is)
    (case c4 => k_is)
    (case k4 => k_is)
    (case a5 => k_is)
    (case l5 => k_is)
    (case c5 => k_is)
    (case k5 => k_is)
    (case a6 => k_is)
    (case l6 => k_is)
    (case c6 => k_is)
    (case k6 => k_is)
    (case a7 => k_is)
    (case l7 => k_is)
    (case c7 => k_is)
    (case k7 => k_is)
    (case a8 => k_is)
    (case l8 => k_is)
    (case c8 => k_is)
    (case k8 => k_is)
    (case a9 => k_is)
    (case l9 => k_is)
    (case c9 => k_is)
    (case k9 => k_is)
    (case a10 => k_is)
    (case l10 => k_is)
    (case c10 => k_is)
    (case k10 => k_is)
    (case a11 => k_is)
    (case l11 => k_is)
    (case c11 => k_is)
    (case k11 => k_is)
    (case a12 => k_is)
    (case l12 => k_is)
    (case c12 => k_is)
    (case k12 => k_is)
    (case a13 => k_is)
    (case l13 => k_is)
    (case c13 => k_is)
    (case k13 => k_is)
    (case a14 => k_is)
    (case l14 => k_is)
    (case c14 => k_is)
    (case k14 => k_is)
    (case a15 => k_is)
    (case l15 => k_is)
    (case c15 => k_is)
    (case k15 => k_is)
    (case aL => k_is)
    (case lL => k_is)
    (case cL => k_is)
    (case kL => k_is)
    (case z_len => k_is)
    (case z_isinstance => k_is)
    (case z_tuple => k_is)
    (case z_list => k_is)
    (case z_bool => k_is)
    (case z_range => k_is)
    (case z_all => k_is)
    (case z_int => k_is)
    (case z_max => k_is)
    (case z_set => k_is)
    (case z_sorted => k_is)
#print axioms PySem.Challenge.cw_pikeroll_k06_what_holds_on_a_day_holds
