import PyProof.Rows.All
import Wide.All
import OpenK.AllK
import Wide.FinOn
import HandS.ForMost
import HandS.Wide
import HandS.IsInst
import HandS.FStr
import HandS.Defaults
import HandS.StrMore
import HandS.Style
import HandS.TupAny
import HandS.RaiseMore
import HandS.Walk
import HandS.Steps
import HandS.Evl
import HandS.ForExc
import HandS.TryMany
import HandS.TryOnly
import HandS.Replace
import PyProof.Rows.StrPadFill
import HandS.OwnEq
import HandS.MakeKw
import HandS.MakeKwOnly
import KE.KCallOwn
import KE.KFmtOwn
import PyProof.InstEq
import PyProof.CallFns
import PyProof.EqAt
import PyProof.SeqRoads2
import PyProof.ZipIter
import HandS.Zip
import KE.GoesEnumKw
import PyProof.Rows.CallKwBuiltin
import HandS.SortKw
import PySem.Challenge.RW_pikeroll_k02_tolls_reckoned
set_option Elab.async false
set_option linter.all false
set_option maxRecDepth 100000
/-! The verifier's own layer: readings step by step, heaps that grow, the drawing bag. -/
namespace Z
open PySem L2

/-- a new object -/
def NewO (o : HO) (H : Hp) (Q : VK) : Prop := ∀ p, H p = none → Q (.ref p) (upd H p o)
/-- all that stood stands -/
def Ex (H H' : Hp) : Prop := ∀ a o, H a = some o → H' a = some o
theorem Ex.new {H : Hp} {p : Addr} {o : HO} (h : H p = none) : Ex H (upd H p o) := fun a u e => by
  rw [upd_ne (ne_of_none e h)]
  exact e
theorem s_new {H : Hp} {Q : VK} {o : HO} (k : ∀ p H', H p = none → Ex H H' → H' p = some o → Q (.ref p) H') : NewO o H Q := fun p hp => k p _ hp (Ex.new hp) upd_same
theorem s_newS {H : Hp} {Q : VK} {o : HO} {n : Nat} (h : n ≤ sizeLine) (k : ∀ p H', H p = none → Ex H H' → H' p = some o → Q (.ref p) H') : n ≤ sizeLine ∧ NewO o H Q := ⟨h, s_new k⟩
/-! ### steps of a reading -/
section
variable {K : PySem.W.Frag} {σ σ' : L2.St} {H H' : Hp} {Q : VK} {ta tb tc te : TE} {t u : TT} {nx bk ct : L2.St → Hp → Prop} {rt : VK} {ts us : TS} {i j : Nat} {v x y : V} {r r' : R2}
theorem s_var (h : σ[i]? = some (some v)) (k : Q v H) : tVar i σ H Q := ⟨v, h, k⟩
theorem s_C (k : Q v H) : tC v σ H Q := k
theorem s_op (k : ta σ H fun x H1 => tb σ H1 fun y H2 => r x y H2 Q) : tOp r ta tb σ H Q := k
theorem s_un {r : V → Hp → VK → Prop} (k : ta σ H fun x H1 => r x H1 Q) : tUn r ta σ H Q := k
theorem s_rI {C : Int → Int → Prop} {g : Int → Int → V} {a b : Int} (hc : C a b) (k : Q (g a b) H) : rI C g (.int a) (.int b) H Q := ⟨a, b, rfl, rfl, hc, k⟩
theorem s_rI0 {g : Int → Int → V} {a b : Int} (k : Q (g a b) H) : rI0 g (.int a) (.int b) H Q := ⟨a, b, rfl, rfl, k⟩
theorem s_rU {g : Int → V} {a : Int} (k : Q (g a) H) : rU g (.int a) H Q := ⟨a, rfl, k⟩
theorem s_rEq (h : scal x y = true) (k : Q (.bl (decide (x = y))) H) : rEq x y H Q := ⟨h, k⟩
theorem s_rNe (h : scal x y = true) (k : Q (.bl (!decide (x = y))) H) : rNe x y H Q := ⟨h, k⟩
theorem s_rEqI {a b : Int} (k : Q (.bl (decide (a = b))) H) : rEq (.int a) (.int b) H Q := ⟨rfl, by
  have e : decide (V.int a = V.int b) = decide (a = b) := by simp
  rw [e]; exact k⟩
theorem s_rNeI {a b : Int} (k : Q (.bl (!decide (a = b))) H) : rNe (.int a) (.int b) H Q := ⟨rfl, by
  have e : decide (V.int a = V.int b) = decide (a = b) := by simp
  rw [e]; exact k⟩
theorem s_rEqS {a b : Str} (k : Q (.bl (decide (a = b))) H) : rEq (.str a) (.str b) H Q := ⟨rfl, by
  have e : decide (V.str a = V.str b) = decide (a = b) := by simp
  rw [e]; exact k⟩
theorem s_rNeS {a b : Str} (k : Q (.bl (!decide (a = b))) H) : rNe (.str a) (.str b) H Q := ⟨rfl, by
  have e : decide (V.str a = V.str b) = decide (a = b) := by simp
  rw [e]; exact k⟩
theorem s_rEqB {a b : Bool} (k : Q (.bl (a == b)) H) : rEq (.bl a) (.bl b) H Q := ⟨rfl, by
  have e : decide (V.bl a = V.bl b) = (a == b) := by cases a <;> cases b <;> rfl
  rw [e]; exact k⟩
theorem s_rNeB {a b : Bool} (k : Q (.bl (a != b)) H) : rNe (.bl a) (.bl b) H Q := ⟨rfl, by
  have e : (!decide (V.bl a = V.bl b)) = (a != b) := by cases a <;> cases b <;> rfl
  rw [e]; exact k⟩
theorem s_tB {R : Bool → Hp → Prop} (k : te σ H fun x H1 => ∃ c, x = .bl c ∧ R c H1) : tB te σ H R := k
theorem s_tTest {R : Bool → Hp → Prop} (k : te σ H fun x H1 => ∃ c, x = .bl c ∧ R c H1) : tTest te σ H R := k
theorem s_bl {c : Bool} {R : Bool → Prop} (k : R c) : ∃ c', V.bl c = .bl c' ∧ R c' := ⟨c, rfl, k⟩
theorem s_and {R : Bool → Hp → Prop} (k : t σ H fun c H1 => if c = true then u σ H1 R else R false H1) : tAnd t u σ H R := k
theorem s_or {R : Bool → Hp → Prop} (k : t σ H fun c H1 => if c = true then R true H1 else u σ H1 R) : tOr t u σ H R := k
theorem s_not {R : Bool → Hp → Prop} (k : t σ H fun c H1 => R (!c) H1) : tNot t σ H R := k
theorem s_andV (k : ta σ H fun x H1 => ∃ c, x = .bl c ∧ if c = true then tb σ H1 Q else Q (.bl false) H1) : tAndV ta tb σ H Q := k
theorem s_orV (k : ta σ H fun x H1 => ∃ c, x = .bl c ∧ if c = true then Q (.bl true) H1 else tb σ H1 Q) : tOrV ta tb σ H Q := k
theorem s_notV (k : ta σ H fun x H1 => ∃ c, x = .bl c ∧ Q (.bl (!c)) H1) : tNotV ta σ H Q := k
theorem s_ifE (k : t σ H fun c H1 => if c = true then ta σ H1 Q else tb σ H1 Q) : tIf t ta tb σ H Q := k
theorem s_chain (k : ta σ H fun x H1 => tb σ H1 fun y H2 => r x y H2 fun z H3 => ∃ c, z = .bl c ∧ (if c = true then tc σ H3 fun w H4 => r' y w H4 Q else Q (.bl false) H3)) : tChain r r' ta tb tc σ H Q := k
theorem s_nil {R : List V → Hp → Prop} (k : R [] H) : tNil σ H R := k
theorem s_cons {tr : TA} {R : List V → Hp → Prop} (k : ta σ H fun x H1 => tr σ H1 fun xs H2 => R (x :: xs) H2) : tCons ta tr σ H R := k
theorem s_CB {r : List V → Hp → VK → Prop} {tr : TA} (k : tr σ H fun vs H1 => r vs H1 Q) : tCB r tr σ H Q := k
theorem s_call {sp : Sp} {dvs : List V} {E : XK} {tr : TA} (k : tr σ H fun vs H1 => sp (vs ++ dvs) H1 Q E) : tCall sp dvs E tr σ H Q := k
theorem s_fld {f : Str} (k : ta σ H fun x H1 => ∃ a C dx fs v, x = .ref a ∧ H1 a = some (.ins C dx fs) ∧ Cls K C ∧ NoAttr K C f ∧ fs.lookup f = some v ∧ Q v H1) : tFld K ta f σ H Q := k
theorem s_sl {r : V → Option Int → Option Int → Hp → VK → Prop} {tl th : TO} (k : te σ H fun x H1 => tl σ H1 fun l H2 => th σ H2 fun u H3 => r x l u H3 Q) : tSl r te tl th σ H Q := k
theorem s_noPart {R : Option Int → Hp → Prop} (k : R none H) : tNoPart σ H R := k
def PartI (x : V) (R : Option Int → Hp → Prop) (H : Hp) : Prop := ∃ a, x = .int a ∧ R (some a) H
theorem s_part {R : Option Int → Hp → Prop} (k : te σ H fun x H1 => PartI x R H1) : tPart te σ H R := k
theorem s_partI {a : Int} {R : Option Int → Hp → Prop} (k : R (some a) H) : PartI (.int a) R H := ⟨a, rfl, k⟩
theorem s_bm {T : String} {r : V → List V → Hp → VK → Prop} {tr : TA} (k : ta σ H fun x H1 => tyV K T x H1 ∧ tr σ H1 fun xs H2 => r x xs H2 Q) : tBM K T r ta tr σ H Q := k
theorem s_bm0 {T : String} {r : V → List V → Hp → VK → Prop} (k : ta σ H fun x H1 => tyV K T x H1 ∧ r x [] H1 Q) : tBM0 K T r ta σ H Q := k
theorem s_m0 {r : V → List V → Hp → VK → Prop} (k : ta σ H fun x H1 => (∃ a, x = .str a) ∧ r x [] H1 Q) : tM0 r ta σ H Q := k
theorem s_m1 {r : V → List V → Hp → VK → Prop} (k : ta σ H fun x H1 => (∃ a, x = .str a) ∧ tb σ H1 fun y H2 => r x [y] H2 Q) : tM1 r ta tb σ H Q := k
theorem at_start {D : Ends} {ρ ρ' : L2.St} (e : ρ = ρ') (k : ts D ρ' H) : ts D ρ H := by
  rw [e]
  exact k
theorem s_isStr {z : Str} {R : Prop} (k : R) : (∃ a, V.str z = .str a) ∧ R := ⟨⟨z, rfl⟩, k⟩
/-! statements: the ends stay written out -/
theorem s_next (k : nx σ H) : tNext ⟨nx, rt, bk, ct⟩ σ H := k
theorem s_seq (k : ts ⟨us ⟨nx, rt, bk, ct⟩, rt, bk, ct⟩ σ H) : tSeq ts us ⟨nx, rt, bk, ct⟩ σ H := k
theorem s_cut (M : L2.St → Hp → Prop) (h : ts ⟨M, rt, bk, ct⟩ σ H) (k : ∀ ρ H', M ρ H' → us ⟨nx, rt, bk, ct⟩ ρ H') : Evl.tCut ts us ⟨nx, rt, bk, ct⟩ σ H := ⟨M, h, k⟩
theorem s_break (k : bk σ H) : tBreak ⟨nx, rt, bk, ct⟩ σ H := k
theorem s_cont (k : ct σ H) : tCont ⟨nx, rt, bk, ct⟩ σ H := k
theorem s_drop (k : te σ H fun _ H1 => nx σ H1) : tDrop te ⟨nx, rt, bk, ct⟩ σ H := k
theorem s_ret (k : te σ H rt) : tRet te ⟨nx, rt, bk, ct⟩ σ H := k
theorem s_retN (k : rt .non H) : tRetN ⟨nx, rt, bk, ct⟩ σ H := k
theorem s_ifS (k : t σ H fun b H1 => if b = true then ts ⟨nx, rt, bk, ct⟩ σ H1 else us ⟨nx, rt, bk, ct⟩ σ H1) : tIfS t ts us ⟨nx, rt, bk, ct⟩ σ H := k
theorem s_set (k : te σ H fun x H1 => nx (σ.set i (some x)) H1) : tAsg te (gName i) ⟨nx, rt, bk, ct⟩ σ H := k
theorem s_asg {g : TG} (k : te σ H fun x H1 => g x σ H1 nx) : tAsg te g ⟨nx, rt, bk, ct⟩ σ H := k
theorem s_par {tr : TA} (k : tr σ H fun vs H1 => ∃ v w, vs = [v, w] ∧ nx ((σ.set i (some v)).set j (some w)) H1) : tPar i j tr ⟨nx, rt, bk, ct⟩ σ H := k
theorem s_parI {v w : V} {R : V → V → Prop} (k : R v w) : ∃ v' w', [v, w] = [v', w'] ∧ R v' w' := ⟨v, w, rfl, k⟩
theorem s_gName {R : L2.St → Hp → Prop} (k : R (σ.set i (some v)) H) : gName i v σ H R := k
theorem s_gSub {tS : TSet} {R : L2.St → Hp → Prop} (k : ta σ H fun o H1 => tb σ H1 fun i H2 => tS o i v H2 fun H3 => R σ H3) : gSub ta tb tS v σ H R := k
theorem s_gTup {n : Nat} {tg : TGs} {a : Addr} {xs : List V} {R : L2.St → Hp → Prop} (h : SqT K H a xs) (hn : xs.length = n) (k : tg xs σ H R) : gTup K n tg (.ref a) σ H R := ⟨a, xs, rfl, h, hn, k⟩
theorem s_gCons {tg : TG} {tgs : TGs} {xs : List V} {R : L2.St → Hp → Prop} (k : tg v σ H fun σ1 H1 => tgs xs σ1 H1 R) : gCons tg tgs (v :: xs) σ H R := ⟨v, xs, rfl, k⟩
theorem s_gNil {R : L2.St → Hp → Prop} (k : R σ H) : gNil [] σ H R := ⟨rfl, k⟩
theorem s_tup {tr : TA} (k : tr σ H fun xs H1 => xs.length ≤ sizeLine ∧ NewO (.tup xs) H1 Q) : tTup tr σ H Q := k
theorem s_lst {tr : TA} (k : tr σ H fun xs H1 => xs.length ≤ sizeLine ∧ NewO (.lst xs) H1 Q) : tLst tr σ H Q := k
theorem s_ixL {p : Addr} {xs : List V} {a : Int} (h : SqL K H p xs) (e : atI xs a = some v) (k : Q v H) : rIxL K (.ref p) (.int a) H Q := ⟨p, xs, a, v, rfl, rfl, h, e, k⟩
theorem s_ixT {p : Addr} {xs : List V} {a : Int} (h : SqT K H p xs) (e : atI xs a = some v) (k : Q v H) : rIxT K (.ref p) (.int a) H Q := ⟨p, xs, a, v, rfl, rfl, h, e, k⟩
theorem s_setL {p : Addr} {xs : List V} {a : Int} {m : Nat} {R : Hp → Prop} (h : H p = some (.lst xs)) (e : ixN xs.length a = some m) (k : R (upd H p (.lst (xs.set m v)))) : rSetL (.ref p) (.int a) v H R := ⟨p, xs, a, m, rfl, rfl, h, e, k⟩
theorem s_slL {a : Addr} {xs : List V} {lo hi : Option Int} (h : SqL K H a xs) (k : NewO (.lst (cutV xs lo hi)) H Q) : rSlL K (.ref a) lo hi H Q := ⟨a, xs, rfl, h, k⟩
theorem s_slS {z : Str} {lo hi : Option Int} (h : z.length ≤ sizeLine) (k : Q (.str (cutS z lo hi)) H) : rSlS (.str z) lo hi H Q := ⟨z, rfl, h, k⟩
theorem s_len {p : Addr} {xs : List V} (h : SqL K H p xs ∨ SqT K H p xs) (k : Q (.int xs.length) H) : ∃ q ys, [V.ref p] = [V.ref q] ∧ (SqL K H q ys ∨ SqT K H q ys) ∧ Q (.int ys.length) H := ⟨p, xs, rfl, h, k⟩
/-! ifs -/
theorem ite_both {c : Bool} {A B : Prop} (h1 : c = true → A) (h2 : c = false → B) : if c = true then A else B := by
  cases c with
  | true => rw [if_pos rfl]; exact h1 rfl
  | false => rw [if_neg (by decide)]; exact h2 rfl
theorem ite_dec {p A B : Prop} {ip : Decidable p} (h1 : p → A) (h2 : ¬ p → B) : if decide p = true then A else B :=
  ite_both (fun h => h1 (of_decide_eq_true h)) (fun h => h2 (of_decide_eq_false h))
theorem ite_ndec {p A B : Prop} {ip : Decidable p} (h1 : ¬ p → A) (h2 : p → B) : if (!decide p) = true then A else B :=
  ite_both (fun h => h1 (by simpa using h)) (fun h => h2 (by simpa using h))
theorem ite_t {A B : Prop} (h : A) : if true = true then A else B := by rw [if_pos rfl]; exact h
theorem ite_f {A B : Prop} (h : B) : if false = true then A else B := by rw [if_neg (by decide)]; exact h
theorem ite_pos {p A B : Prop} {ip : Decidable p} (hp : p) (h : A) : if decide p = true then A else B := by rw [if_pos (decide_eq_true hp)]; exact h
theorem ite_neg {p A B : Prop} {ip : Decidable p} (hp : ¬ p) (h : B) : if decide p = true then A else B := by rw [if_neg (by simpa using hp)]; exact h
theorem ite_npos {p A B : Prop} {ip : Decidable p} (hp : ¬ p) (h : A) : if (!decide p) = true then A else B := by rw [if_pos (by simpa using hp)]; exact h
theorem ite_nneg {p A B : Prop} {ip : Decidable p} (hp : p) (h : B) : if (!decide p) = true then A else B := by rw [if_neg (by simpa using hp)]; exact h
/-! loops -/
/-- the loop's word, said for any walk: J, its turns n, G what stands still, Y what it yields -/
def Loops (J : It) (g : TG) (ts : TS) (nx : L2.St → Hp → Prop) (rt : VK) (σ : L2.St) (H : Hp) : Prop := ∃ W : Nat → Nat → L2.St → Hp → Prop, (∃ m, W 0 m σ H) ∧ ∀ i m σ H, W i m σ H →
      (J.stop i H ∧ nx σ H) ∨ (J.go i H ∧ ∃ N : L2.St → Hp → Prop, (∀ σ' H', N σ' H' → ∃ m', m' < m ∧ W (i + 1) m' σ' H') ∧ ∀ x H', J.yld i H x H' → g x σ H' fun σ2 H2 => ts ⟨N, rt, nx, N⟩ σ2 H2)
theorem s_for {wi : TI} {g : TG} (k : wi σ H fun J H1 => Loops J g ts nx rt σ H1) : tFor wi g ts ⟨nx, rt, bk, ct⟩ σ H := k
theorem s_iRng1 {tr : TA} {R : It → Hp → Prop} (k : tr σ H fun vs H1 => ∃ j : Int, vs = [.int j] ∧ -(2 ^ 62) ≤ j ∧ j < 2 ^ 62 ∧ R (Itr 0 j.toNat) H1) : iRng1 tr σ H R := k
theorem s_iRng2 {tr : TA} {R : It → Hp → Prop} (k : tr σ H fun vs H1 => ∃ i j : Int, vs = [.int i, .int j] ∧ (-(2 ^ 62) ≤ i ∧ i < 2 ^ 62 ∧ -(2 ^ 62) ≤ j ∧ j < 2 ^ 62) ∧ R (Itr i (j - i).toNat) H1) : iRng2 tr σ H R := k
theorem s_iList {R : It → Hp → Prop} (k : te σ H fun x H1 => ∃ a, x = .ref a ∧ (∃ xs, SqL K H1 a xs) ∧ R (Itl K a) H1) : iList K te σ H R := k
theorem s_iTup {R : It → Hp → Prop} (k : te σ H fun x H1 => ∃ a, x = .ref a ∧ (∃ xs, SqT K H1 a xs) ∧ R (Itt K a) H1) : iTup K te σ H R := k
theorem s_iStr {R : It → Hp → Prop} (k : te σ H fun v H1 => ∃ x, v = .str x ∧ R (Its x) H1) : iStr te σ H R := k
theorem s_iEnum {tr : TA} {R : It → Hp → Prop} (k : tr σ H fun vs H1 => ∃ a xs, vs = [.ref a] ∧ SqL K H1 a xs ∧ R (Ite K a) H1) : iEnum K tr σ H R := k
theorem loops_of {J : It} {n : Nat} {G : Hp → Prop} {Y : Nat → Hp → V → Hp → Prop} {g : TG} (w : Walk J n G Y) (Pv : Nat → L2.St → Hp → Prop) (h0 : Pv 0 σ H) (hG : ∀ i σ H, i ≤ n → Pv i σ H → G H)
    (hs : ∀ i x σ H H', i < n → Pv i σ H → Y i H x H' → g x σ H' fun σ2 H2 => ts ⟨Pv (i + 1), rt, nx, Pv (i + 1)⟩ σ2 H2) (hd : ∀ σ H, Pv n σ H → nx σ H) : Loops J g ts nx rt σ H :=
  for_it (D := ⟨nx, rt, fun _ _ => False, fun _ _ => False⟩) w Pv h0 hG hs hd
/-- range(n), as it stands behind the arguments -/
theorem l_range {g : TG} {n : Int} (b : -(2 ^ 62) ≤ n ∧ n < 2 ^ 62) (Pv : Nat → L2.St → Hp → Prop) (h0 : Pv 0 σ H)
    (hs : ∀ (i : Nat) σ H, (i : Int) < n → Pv i σ H → g (.int (i : Int)) σ H fun σ2 H2 => ts ⟨Pv (i + 1), rt, nx, Pv (i + 1)⟩ σ2 H2) (hd : ∀ σ H, Pv n.toNat σ H → nx σ H) :
    ∃ j : Int, [V.int n] = [.int j] ∧ -(2 ^ 62) ≤ j ∧ j < 2 ^ 62 ∧ Loops (Itr 0 j.toNat) g ts nx rt σ H :=
  ⟨n, rfl, b.1, b.2, loops_of walk_range Pv h0 (fun _ _ _ _ _ => trivial) (fun i x σ H H' hi p y => by
    obtain ⟨e, y⟩ := y
    subst e y
    have e0 : (0 : Int) + (i : Int) = (i : Int) := Int.zero_add _
    dsimp only
    rw [e0]
    exact hs i σ _ (by omega) p) hd⟩
/-- range(lo, hi) -/
theorem l_range2 {g : TG} {lo n : Int} (b : -(2 ^ 62) ≤ lo ∧ lo < 2 ^ 62 ∧ -(2 ^ 62) ≤ n ∧ n < 2 ^ 62) (Pv : Nat → L2.St → Hp → Prop) (h0 : Pv 0 σ H)
    (hs : ∀ (i : Nat) σ H, lo + (i : Int) < n → Pv i σ H → g (.int (lo + (i : Int))) σ H fun σ2 H2 => ts ⟨Pv (i + 1), rt, nx, Pv (i + 1)⟩ σ2 H2) (hd : ∀ σ H, Pv (n - lo).toNat σ H → nx σ H) :
    ∃ i j : Int, [V.int lo, V.int n] = [.int i, .int j] ∧ (-(2 ^ 62) ≤ i ∧ i < 2 ^ 62 ∧ -(2 ^ 62) ≤ j ∧ j < 2 ^ 62) ∧ Loops (Itr i (j - i).toNat) g ts nx rt σ H :=
  ⟨lo, n, rfl, b, loops_of walk_range Pv h0 (fun _ _ _ _ _ => trivial) (fun i x σ H H' hi p y => by
    obtain ⟨e, y⟩ := y
    subst e y
    exact hs i σ _ (by omega) p) hd⟩
/-- a list -/
theorem l_list {g : TG} {a : Addr} (xs : List V) (Pv : Nat → L2.St → Hp → Prop) (h0 : Pv 0 σ H) (hG : ∀ i σ H, i ≤ xs.length → Pv i σ H → SqL K H a xs)
    (hs : ∀ i x σ H, xs[i]? = some x → Pv i σ H → g x σ H fun σ2 H2 => ts ⟨Pv (i + 1), rt, nx, Pv (i + 1)⟩ σ2 H2) (hd : ∀ σ H, Pv xs.length σ H → nx σ H) :
    ∃ a', V.ref a = .ref a' ∧ (∃ xs, SqL K H a' xs) ∧ Loops (Itl K a') g ts nx rt σ H :=
  ⟨a, rfl, ⟨xs, hG 0 σ H (Nat.zero_le _) h0⟩, loops_of walk_list Pv h0 hG (fun i x σ H H' hi p y => by
    obtain ⟨e, y⟩ := y
    subst e
    exact hs i x σ _ y p) hd⟩
/-- a tuple -/
theorem l_tup {g : TG} {a : Addr} (xs : List V) (Pv : Nat → L2.St → Hp → Prop) (h0 : Pv 0 σ H) (hG : ∀ i σ H, i ≤ xs.length → Pv i σ H → SqT K H a xs)
    (hs : ∀ i x σ H, xs[i]? = some x → Pv i σ H → g x σ H fun σ2 H2 => ts ⟨Pv (i + 1), rt, nx, Pv (i + 1)⟩ σ2 H2) (hd : ∀ σ H, Pv xs.length σ H → nx σ H) :
    ∃ a', V.ref a = .ref a' ∧ (∃ xs, SqT K H a' xs) ∧ Loops (Itt K a') g ts nx rt σ H :=
  ⟨a, rfl, ⟨xs, hG 0 σ H (Nat.zero_le _) h0⟩, loops_of walk_tup Pv h0 hG (fun i x σ H H' hi p y => by
    obtain ⟨e, y⟩ := y
    subst e
    exact hs i x σ _ y p) hd⟩
/-- a text -/
theorem l_str {g : TG} {z : Str} (Pv : Nat → L2.St → Hp → Prop) (h0 : Pv 0 σ H)
    (hs : ∀ i c σ H, z.cps[i]? = some c → Pv i σ H → g (.str ⟨#[c]⟩) σ H fun σ2 H2 => ts ⟨Pv (i + 1), rt, nx, Pv (i + 1)⟩ σ2 H2) (hd : ∀ σ H, Pv z.cps.size σ H → nx σ H) :
    ∃ x, V.str z = .str x ∧ Loops (Its x) g ts nx rt σ H :=
  ⟨z, rfl, loops_of walk_str Pv h0 (fun _ _ _ _ _ => trivial) (fun i x σ H H' hi p y => by
    obtain ⟨e, c, y1, y2⟩ := y
    subst e y2
    exact hs i c σ _ y1 p) hd⟩
/-- a while's turn: behind it the word holds at a lesser measure -/
def WhB (W : Nat → L2.St → Hp → Prop) (m : Nat) (ts : TS) (rt : VK) (nx : L2.St → Hp → Prop) (σ : L2.St) (H : Hp) : Prop := ∃ N : L2.St → Hp → Prop, (∀ σ' H', N σ' H' → ∃ m', m' < m ∧ W m' σ' H') ∧ ts ⟨N, rt, nx, N⟩ σ H
theorem s_whB {W : Nat → L2.St → Hp → Prop} {m : Nat} (k : ts ⟨fun σ' H' => ∃ m', m' < m ∧ W m' σ' H', rt, nx, fun σ' H' => ∃ m', m' < m ∧ W m' σ' H'⟩ σ H) : WhB W m ts rt nx σ H := ⟨_, fun _ _ h => h, k⟩
/-- a while: its word and its measure -/
theorem l_while (W : Nat → L2.St → Hp → Prop) (h0 : ∃ m, W m σ H)
    (hs : ∀ m σ H, W m σ H → t σ H fun b H1 => if b = true then WhB W m ts rt nx σ H1 else nx σ H1) : tWhile t ts ⟨nx, rt, bk, ct⟩ σ H := ⟨W, h0, hs⟩
end

/-! ### heaps -/
/-- all but what stands at b -/
def Fr (b : Addr) (H H' : Hp) : Prop := ∀ a o, a ≠ b → H a = some o → H' a = some o
theorem Ex.refl {H : Hp} : Ex H H := fun _ _ h => h
theorem Ex.trans {H H1 H2 : Hp} (a : Ex H H1) (b : Ex H1 H2) : Ex H H2 := fun x o h => b x o (a x o h)
theorem Ex.mut {H H' : Hp} {p : Addr} {o : HO} (e : Ex H H') (h : H p = none) : Ex H (upd H' p o) := fun a u ha => by
  rw [upd_ne (ne_of_none ha h)]
  exact e a u ha
theorem Ex.back {H H' : Hp} {p : Addr} (e : Ex H H') (h : H' p = none) : H p = none := by
  cases h1 : H p with
  | none => rfl
  | some o =>
    rw [e p o h1] at h
    cases h
theorem Ex.fr {H H' : Hp} (b : Addr) (e : Ex H H') : Fr b H H' := fun a o _ h => e a o h
theorem Fr.refl {b : Addr} {H : Hp} : Fr b H H := fun _ _ _ h => h
theorem Fr.trans {b : Addr} {H H1 H2 : Hp} (x : Fr b H H1) (y : Fr b H1 H2) : Fr b H H2 := fun a o n h => y a o n (x a o n h)
theorem Fr.upd {b : Addr} {H : Hp} {o : HO} : Fr b H (upd H b o) := fun a u n h => by
  rw [upd_ne n]
  exact h
theorem Ex.sqL {K : PySem.W.Frag} {H H' : Hp} {a : Addr} {xs : List V} (e : Ex H H') (h : SqL K H a xs) : SqL K H' a xs := by
  rcases h with (h | ⟨o, h⟩) | h
  · exact .inl (.inl (e _ _ h))
  · exact .inl (.inr ⟨o, e _ _ h⟩)
  · exact .inr h
theorem Ex.sqT {K : PySem.W.Frag} {H H' : Hp} {a : Addr} {xs : List V} (e : Ex H H') (h : SqT K H a xs) : SqT K H' a xs := by
  rcases h with (h | ⟨o, h⟩) | h
  · exact .inl (.inl (e _ _ h))
  · exact .inl (.inr ⟨o, e _ _ h⟩)
  · exact .inr h
theorem sqL_ex {K : PySem.W.Frag} {H H' : Hp} {a : Addr} {xs : List V} (h : SqL K H a xs) (e : Ex H H') : SqL K H' a xs := e.sqL h
theorem sqT_ex {K : PySem.W.Frag} {H H' : Hp} {a : Addr} {xs : List V} (h : SqT K H a xs) (e : Ex H H') : SqT K H' a xs := e.sqT h
/-- the heap without what stands at b -/
def wo (b : Addr) (H : Hp) : Hp := fun a => if a = b then none else H a
theorem wo_some {b a : Addr} {H : Hp} {o : HO} (h : wo b H a = some o) : a ≠ b ∧ H a = some o := by
  unfold wo at h
  split at h
  · cases h
  · exact ⟨by assumption, h⟩
theorem wo_mk {b a : Addr} {H : Hp} {o : HO} (n : a ≠ b) (h : H a = some o) : wo b H a = some o := by
  unfold wo
  rw [if_neg n]
  exact h
theorem wo_ex {b : Addr} {H : Hp} : Ex (wo b H) H := fun _ _ h => (wo_some h).2
theorem Fr.wo {b : Addr} {H H' : Hp} (e : Fr b H H') : Ex (Z.wo b H) (Z.wo b H') := fun a o h => wo_mk (wo_some h).1 (e a o (wo_some h).1 (wo_some h).2)
theorem Ex.wo {b : Addr} {H H' : Hp} (e : Ex H H') : Ex (Z.wo b H) (Z.wo b H') := (e.fr b).wo
theorem ex_at {H H' : Hp} {a : Addr} {o : HO} (e : Ex H H') (h : H a = some o) : H' a = some o := e a o h
theorem fr_at {b : Addr} {H H' : Hp} {a : Addr} {o : HO} (e : Fr b H H') (n : a ≠ b) (h : H a = some o) : H' a = some o := e a o n h
theorem fr_none {b : Addr} {H H' : Hp} {l : Addr} (e : Fr b H H') (h : H' l = none) (n : l ≠ b) : H l = none := by
  cases q : H l with
  | none => rfl
  | some o =>
    rw [e l o n q] at h
    cases h
theorem upd_at {H : Hp} {a b : Addr} {o u : HO} (n : b ≠ a) (h : H b = some u) : upd H a o b = some u := by
  rw [upd_ne n]
  exact h
theorem ref_ne {a b : Addr} (h : V.ref a ≠ V.ref b) : a ≠ b := fun e => h (by rw [e])
/-! ### readings by name -/
def rLen (K : PySem.W.Frag) : List V → Hp → VK → Prop := fun xs H Q => ∃ p ys, xs = [.ref p] ∧ (SqL K H p ys ∨ SqT K H p ys) ∧ Q (.int ys.length) H
def rLenStr : List V → Hp → VK → Prop := fun xs H Q => ∃ z, xs = [.str z] ∧ z.length ≤ sizeLine ∧ Q (.int z.length) H
def rAbs : List V → Hp → VK → Prop := fun xs H Q => ∃ i, xs = [.int i] ∧ Q (.int (if i < 0 then -i else i)) H
def rMax2 : List V → Hp → VK → Prop := fun xs H Q => ∃ i j, xs = [.int i, .int j] ∧ Q (.int (if j > i then j else i)) H
def rMin2 : List V → Hp → VK → Prop := fun xs H Q => ∃ i j, xs = [.int i, .int j] ∧ Q (.int (if j < i then j else i)) H
def rInt1 : List V → Hp → VK → Prop := fun xs H Q => (∃ i, xs = [.int i] ∧ Q (.int i) H) ∨ ∃ k, xs = [.bl k] ∧ Q (.int (if k then 1 else 0)) H
def rStrInt : List V → Hp → VK → Prop := fun xs H Q => ∃ i : Int, xs = [.int i] ∧ i.natAbs.log2 < 1920 ∧ Q (.str (toString i)) H
def rListOf (K : PySem.W.Frag) : List V → Hp → VK → Prop := fun xs H Q => ∃ p ys, xs = [.ref p] ∧ (SqL K H p ys ∨ SqT K H p ys) ∧ ∀ l, H l = none → Q (.ref l) (upd H l (.lst ys))
def rTupleOf (K : PySem.W.Frag) : List V → Hp → VK → Prop := fun xs H Q => ∃ p ys, xs = [.ref p] ∧ ((SqL K H p ys ∧ ∀ l, H l = none → Q (.ref l) (upd H l (.tup ys))) ∨ (SqT K H p ys ∧ Q (.ref p) H))
def rDivmod : List V → Hp → VK → Prop := fun xs H Q => ∃ i j, xs = [.int i, .int j] ∧ CDiv i j ∧ ∀ p, H p = none → Q (.ref p) (upd H p (.tup [.int (i / j), .int (i % j)]))
def rAddStr : R2 := fun x y H Q => ∃ i j, x = .str i ∧ y = .str j ∧ i.length + j.length ≤ sizeLine ∧ Q (.str (i ++ j)) H
def rFind : V → List V → Hp → VK → Prop := fun x xs H Q => ∃ a b, x = .str a ∧ xs = [.str b] ∧ Q (.int (Txt.find a b)) H
def rRjust : V → List V → Hp → VK → Prop := fun x xs H Q => ∃ (a : Str) (i : Int), x = .str a ∧ xs = [.int i] ∧ PadOk i = true ∧ Q (.str (Txt.rjust a i)) H
section
variable {X : Cx}
theorem cz_len : CallR X (.builtin "len") (rLen X.K) := call_len_seq
theorem cz_lenStr : CallR X (.builtin "len") rLenStr := call_len_str
theorem cz_abs : CallR X (.builtin "abs") rAbs := call_abs
theorem cz_max2 (hc : X.calm = true) : CallR X (.builtin "max") rMax2 := call_max2 hc
theorem cz_min2 (hc : X.calm = true) : CallR X (.builtin "min") rMin2 := call_min2 hc
theorem cz_int1 : CallR X (.type "int") rInt1 := call_int1
theorem cz_strInt : CallR X (.type "str") rStrInt := call_str_int
theorem cz_listOf : CallR X (.type "list") (rListOf X.K) := call_list_of
theorem cz_tupleOf : CallR X (.type "tuple") (rTupleOf X.K) := call_tuple_of
theorem cz_divmod : CallR X (.builtin "divmod") rDivmod := call_divmod
theorem oz_addStr : OpR X (binaryOp .Add) rAddStr := op_add_str
theorem mz_find : MtR X "str.find" rFind := mt_find
def rRjust2 : V → List V → Hp → VK → Prop := fun x xs H Q => ∃ (a f : Str) (i : Int), x = .str a ∧ xs = [.int i, .str f] ∧ (PadOk i = true ∧ f.length = 1) ∧ Q (.str (Txt.rjustF a i (f.cps.getD 0 0))) H
theorem mz_rjust2 : MtR X "str.rjust" rRjust2 := by
  intro pins s σ H x xs v us Q I rx rs h
  obtain ⟨a, f, i, rfl, rfl, hc, h⟩ := h
  obtain ⟨t, rfl⟩ := rx
  cases rs with
  | cons r1 rs =>
    cases rs with
    | cons r2 rs =>
      cases rs
      obtain ⟨u, rfl⟩ := r1
      obtain ⟨z, rfl⟩ := r2
      exact PyProof.Rows.rjust_fill hc.1 hc.2 fun t' k => ⟨V.str (Txt.rjustF a i (f.cps.getD 0 0)), H, I.tok k, ⟨t', rfl⟩, h⟩
def rJoin (K : PySem.W.Frag) : V → List V → Hp → VK → Prop := fun x xs H Q => ∃ a p, ∃ ys : List Str, x = .str a ∧ xs = [.ref p] ∧ (SqL K H p (ys.map V.str) ∨ SqT K H p (ys.map V.str)) ∧
      (ys.map (·.length)).sum + ys.length * a.length ≤ 16777216 ∧ Q (.str (Txt.join a ys)) H
theorem mz_join : MtR X "str.join" (rJoin X.K) := mt_join
def rUpper : V → List V → Hp → VK → Prop := fun x xs H Q => ∃ a, x = .str a ∧ xs = [] ∧ a.length ≤ 5592405 ∧ Q (.str (Txt.upper a)) H
theorem mz_upper : MtR X "str.upper" rUpper := mt_upper
def rMulS : R2 := fun x y H Q => ∃ (a : Str) (n : Int), x = .str a ∧ y = .int n ∧ MulOk a n ∧ Q (.str (Txt.mul a n)) H
theorem oz_mulS : OpR X (binaryOp .Mult) rMulS := by
  intro pins s σ H x y v u Q I rx ry h
  obtain ⟨a, n, rfl, rfl, hc, h⟩ := h
  obtain ⟨t, rfl⟩ := rx
  obtain ⟨z, rfl⟩ := ry
  exact PySem.SB.mul hc fun t' k => ⟨V.str (Txt.mul a n), H, I.tok k, ⟨t', rfl⟩, h⟩
def tFS (ts : List TE) : TE := fun σ H Q => tJs ts Str.empty σ H fun out H1 => Q (.str out) H1
theorem pz_fstr {v1 v2 : Expr} {rest : List Expr} {ts : List TE} {pos : Pos} (h : PJ X (v1 :: v2 :: rest) ts) : PE X (.JoinedStr (v1 :: v2 :: rest) pos) (tFS ts) := pe_joined h
def rSindex : V → List V → Hp → VK → Prop := fun x xs H Q => ∃ a b i rest, x = .str a ∧ xs = [.str b] ∧ Builtin.Str.occurrences a b 0 a.length 1 = i :: rest ∧ Q (.int (i : Nat)) H
theorem mz_sindex : MtR X "str.index" rSindex := mt_sindex
theorem mz_rjust : MtR X "str.rjust" rRjust := mt_rjust
end
section
variable {K : PySem.W.Frag} {H : Hp} {Q : VK} {x : V}
theorem s_tyS {z : Str} {R : Prop} (k : R) : tyV K "str" (.str z) H ∧ R := ⟨by show "str" = "str"; rfl, k⟩
theorem s_tyL {a : Addr} {xs : List V} {R : Prop} (h : SqL K H a xs) (k : R) : tyV K "list" (.ref a) H ∧ R := ⟨.inl ⟨rfl, _, h⟩, k⟩
theorem s_rLen {p : Addr} {xs : List V} (h : SqL K H p xs ∨ SqT K H p xs) (k : Q (.int xs.length) H) : rLen K [.ref p] H Q := ⟨p, xs, rfl, h, k⟩
theorem s_rLenStr {z : Str} (h : z.length ≤ sizeLine) (k : Q (.int z.length) H) : rLenStr [.str z] H Q := ⟨z, rfl, h, k⟩
theorem s_rAbs {i : Int} (k : Q (.int (if i < 0 then -i else i)) H) : rAbs [.int i] H Q := ⟨i, rfl, k⟩
theorem s_rMax2 {i j : Int} (k : Q (.int (if j > i then j else i)) H) : rMax2 [.int i, .int j] H Q := ⟨i, j, rfl, k⟩
theorem s_rMin2 {i j : Int} (k : Q (.int (if j < i then j else i)) H) : rMin2 [.int i, .int j] H Q := ⟨i, j, rfl, k⟩
theorem s_rInt1 {i : Int} (k : Q (.int i) H) : rInt1 [.int i] H Q := .inl ⟨i, rfl, k⟩
theorem s_rIntB {c : Bool} (k : Q (.int (if c then 1 else 0)) H) : rInt1 [.bl c] H Q := .inr ⟨c, rfl, k⟩
theorem s_rStrInt {i : Int} (h : i.natAbs.log2 < 1920) (k : Q (.str (toString i)) H) : rStrInt [.int i] H Q := ⟨i, rfl, h, k⟩
theorem s_rListOf {p : Addr} {xs : List V} (h : SqL K H p xs ∨ SqT K H p xs) (k : NewO (.lst xs) H Q) : rListOf K [.ref p] H Q := ⟨p, xs, rfl, h, k⟩
theorem s_rTupleOf {p : Addr} {xs : List V} (h : SqL K H p xs) (k : NewO (.tup xs) H Q) : rTupleOf K [.ref p] H Q := ⟨p, xs, rfl, .inl ⟨h, k⟩⟩
theorem s_rDivmod {i j : Int} (h : CDiv i j) (k : NewO (.tup [.int (i / j), .int (i % j)]) H Q) : rDivmod [.int i, .int j] H Q := ⟨i, j, rfl, h, k⟩
theorem s_rAddStr {a b : Str} (h : a.length + b.length ≤ sizeLine) (k : Q (.str (a ++ b)) H) : rAddStr (.str a) (.str b) H Q := ⟨a, b, rfl, rfl, h, k⟩
theorem s_rFind {a b : Str} (k : Q (.int (Txt.find a b)) H) : rFind (.str a) [.str b] H Q := ⟨a, b, rfl, rfl, k⟩
theorem s_rJoin {a : Str} {p : Addr} {xs : List V} (ys : List Str) (h : SqL K H p xs ∨ SqT K H p xs) (e : xs = ys.map V.str) (z : (ys.map (·.length)).sum + ys.length * a.length ≤ 16777216) (k : Q (.str (Txt.join a ys)) H) : rJoin K (.str a) [.ref p] H Q := ⟨a, p, ys, rfl, rfl, by rw [← e]; exact h, z, k⟩
def RevV (K : PySem.W.Frag) (x : V) (H : Hp) (Q : VK) : Prop := ∃ a xs, x = .ref a ∧ SqL K H a xs ∧ ∀ p, H p = none → Q (.ref p) (upd H p (.lst xs.reverse))
theorem s_tRevL {te : TE} {σ : L2.St} (k : te σ H fun x H1 => RevV K x H1 Q) : tRevL K te σ H Q := k
theorem s_revV {a : Addr} {xs : List V} (h : SqL K H a xs) (k : NewO (.lst xs.reverse) H Q) : RevV K (.ref a) H Q := ⟨a, xs, rfl, h, k⟩
def AppV (x : V) (vs : List V) (H : Hp) (Q : VK) : Prop := rAppend x vs H Q
theorem s_app {l : Addr} {xs : List V} {y : V} (h : H l = some (.lst xs)) (z : xs.length < sizeLine) (k : ∀ H', Fr l H H' → H' l = some (.lst (xs ++ [y])) → Q .non H') : rAppend (.ref l) [y] H Q := ⟨l, xs, y, rfl, rfl, h, z, k _ Fr.upd upd_same⟩
theorem s_rRjust2 {a f : Str} {i : Int} (h : PadOk i = true ∧ f.length = 1) (k : Q (.str (Txt.rjustF a i (f.cps.getD 0 0))) H) : rRjust2 (.str a) [.int i, .str f] H Q := ⟨a, f, i, rfl, rfl, h, k⟩
theorem s_rRjust {a : Str} {i : Int} (h : PadOk i = true) (k : Q (.str (Txt.rjust a i)) H) : rRjust (.str a) [.int i] H Q := ⟨a, i, rfl, rfl, h, k⟩
theorem s_rAll {K : PySem.W.Frag} {p : Addr} (bs : List Bool) {xs : List V} (h : SqL K H p xs) (e : xs = bs.map V.bl) (k : Q (.bl (bs.all id)) H) : rAll K [.ref p] H Q := ⟨p, bs, rfl, by rw [← e]; exact h, k⟩
theorem s_rUpper {a : Str} (h : a.length ≤ 5592405) (k : Q (.str (Txt.upper a)) H) : rUpper (.str a) [] H Q := ⟨a, rfl, rfl, h, k⟩
theorem s_rMulS {a : Str} {n : Int} (h : MulOk a n) (k : Q (.str (Txt.mul a n)) H) : rMulS (.str a) (.int n) H Q := ⟨a, n, rfl, rfl, h, k⟩
def FmtV (x : V) (H : Hp) (Q : VK) : Prop := (∃ y : Str, x = .str y ∧ y.length ≤ sizeLine ∧ Q (.str y) H) ∨ ∃ i : Int, x = .int i ∧ i.natAbs.log2 < 1920 ∧ Q (.str (toString i)) H
def JsV (x : V) (acc : Str) (ts : List TE) (σ : L2.St) (H : Hp) (R : Str → Hp → Prop) : Prop := ∃ y : Str, x = .str y ∧ (acc ++ y).length ≤ sizeLine ∧ tJs ts (acc ++ y) σ H R
theorem s_tFmt {te : TE} {σ : L2.St} (k : te σ H fun x H1 => FmtV x H1 Q) : tFmt te σ H Q := k
theorem s_fmtS {y : Str} (h : y.length ≤ sizeLine) (k : Q (.str y) H) : FmtV (.str y) H Q := .inl ⟨y, rfl, h, k⟩
theorem s_fmtI {i : Int} (h : i.natAbs.log2 < 1920) (k : Q (.str (toString i)) H) : FmtV (.int i) H Q := .inr ⟨i, rfl, h, k⟩
theorem s_tFS {ts : List TE} {σ : L2.St} (k : tJs ts Str.empty σ H fun out H1 => Q (.str out) H1) : tFS ts σ H Q := k
theorem s_jsNil {acc : Str} {σ : L2.St} {R : Str → Hp → Prop} (k : R acc H) : tJs [] acc σ H R := k
theorem s_jsCons {t : TE} {ts : List TE} {acc : Str} {σ : L2.St} {R : Str → Hp → Prop} (k : t σ H fun x H1 => JsV x acc ts σ H1 R) : tJs (t :: ts) acc σ H R := k
theorem s_jsV {y acc : Str} {ts : List TE} {σ : L2.St} {R : Str → Hp → Prop} (h : (acc ++ y).length ≤ sizeLine) (k : tJs ts (acc ++ y) σ H R) : JsV (.str y) acc ts σ H R := ⟨y, rfl, h, k⟩
theorem s_rSindex {a b : Str} {i : Nat} {rest : List Nat} (h : Builtin.Str.occurrences a b 0 a.length 1 = i :: rest) (k : Q (.int (i : Nat)) H) : rSindex (.str a) [.str b] H Q := ⟨a, b, i, rest, rfl, rfl, h, k⟩
theorem s_rNotInS {c : Nat} {z : Str} (k : Q (.bl (!decide (c ∈ z.cps.toList))) H) : rNotInS (.str ⟨#[c]⟩) (.str z) H Q := ⟨c, z, rfl, rfl, k⟩
theorem s_rInS {c : Nat} {z : Str} (k : Q (.bl (decide (c ∈ z.cps.toList))) H) : rInS (.str ⟨#[c]⟩) (.str z) H Q := ⟨c, z, rfl, rfl, k⟩
theorem s_catA {K : PySem.W.Frag} {a b : Addr} {xs ys : List V} (h1 : SqT K H a xs) (h2 : SqT K H b ys) (hx : xs ≠ []) (hy : ys ≠ []) (hz : xs.length + ys.length ≤ sizeLine) (k : NewO (.tup (xs ++ ys)) H Q) : rCatA K (.ref a) (.ref b) H Q :=
  ⟨a, b, xs, ys, rfl, rfl, h1, h2, hz, fun e => absurd e hx, fun _ e => absurd e hy, fun _ _ => k⟩
theorem s_slT {K : PySem.W.Frag} {a : Addr} {xs : List V} {lo hi : Option Int} (n : Nat) (ys : List V) (h : SqT K H a xs) (hn : xs.length = n) (hw : ¬ (HT.sIx n 0 lo = 0 ∧ HT.sIx n n hi = n)) (e : cutV xs lo hi = ys) (k : NewO (.tup ys) H Q) : rSlT K (.ref a) lo hi H Q := ⟨a, xs, rfl, h, by rw [hn]; exact hw, by rw [e]; exact k⟩
theorem s_rInSeq {K : PySem.W.Frag} {p : Addr} {xs : List V} (h : SqL K H p xs ∨ SqT K H p xs) (f1 : flatV x = true) (f2 : xs.all flatV = true) (k : Q (.bl (inV x xs)) H) : rIn K false x (.ref p) H Q := ⟨p, xs, rfl, h, f1, f2, k⟩
theorem s_rNotInSeq {K : PySem.W.Frag} {p : Addr} {xs : List V} (h : SqL K H p xs ∨ SqT K H p xs) (f1 : flatV x = true) (f2 : xs.all flatV = true) (k : Q (.bl (!inV x xs)) H) : rIn K true x (.ref p) H Q := ⟨p, xs, rfl, h, f1, f2, k⟩
theorem s_rIsN (k : Q (.bl (decide (x = .non))) H) : rIsN x .non H Q := ⟨rfl, k⟩
theorem s_rNotN (k : Q (.bl (!decide (x = .non))) H) : rNotN x .non H Q := ⟨rfl, k⟩
end

/-! ### texts as their codes -/
def T (l : List Nat) : Str := ⟨l.toArray⟩
theorem T_len (l : List Nat) : (T l).length = l.length := by
  show (l.toArray).size = _
  simp
theorem T_app (a b : List Nat) : T a ++ T b = T (a ++ b) := by
  show (⟨a.toArray ++ b.toArray⟩ : Str) = ⟨(a ++ b).toArray⟩
  simp
theorem T_one (c : Nat) : (⟨#[c]⟩ : Str) = T [c] := rfl
theorem T_cps (l : List Nat) : (T l).cps.toList = l := by
  show l.toArray.toList = l
  simp
theorem T_inj {a b : List Nat} (h : T a = T b) : a = b := by
  have e := congrArg (fun s : Str => s.cps.toList) h
  rw [T_cps, T_cps] at e
  exact e
theorem at0 {α : Type} (c : α) (r : List α) : atI (c :: r) (0 : Int) = some c := atI_nat (xs := c :: r) (j := 0) rfl
theorem at_ex {α : Type} (l : List α) {z : Int} (h0 : 0 ≤ z) (h1 : z < l.length) : ∃ c, atI l z = some c := by
  obtain ⟨n, rfl⟩ : ∃ n : Nat, z = n := ⟨z.toNat, by omega⟩
  exact ⟨l[n]'(by omega), atI_nat (List.getElem?_eq_getElem (by omega))⟩
/-- an item at an open place: what is true of all items -/
theorem s_ixP {K : PySem.W.Frag} {p : Addr} {xs : List V} {z : Int} {H : Hp} {Q : VK} (P : V → Prop) (h : SqL K H p xs) (hz : 0 ≤ z ∧ z < xs.length) (hP : ∀ v ∈ xs, P v) (k : ∀ v, P v → Q v H) : rIxL K (.ref p) (.int z) H Q := by
  obtain ⟨v, hv⟩ := at_ex xs hz.1 hz.2
  obtain ⟨j, _, hj, _⟩ := atI_get hv
  exact ⟨p, xs, z, v, rfl, rfl, h, hv, k v (hP v (List.mem_of_getElem? hj))⟩
/-- an item at an open place: what is true of all items -/
theorem s_ixPT {K : PySem.W.Frag} {p : Addr} {xs : List V} {z : Int} {H : Hp} {Q : VK} (P : V → Prop) (h : SqT K H p xs) (hz : 0 ≤ z ∧ z < xs.length) (hP : ∀ v ∈ xs, P v) (k : ∀ v, P v → Q v H) : rIxT K (.ref p) (.int z) H Q := by
  obtain ⟨v, hv⟩ := at_ex xs hz.1 hz.2
  obtain ⟨j, _, hj, _⟩ := atI_get hv
  exact ⟨p, xs, z, v, rfl, rfl, h, hv, k v (hP v (List.mem_of_getElem? hj))⟩
theorem s_ixS {z : Str} {a : Int} {c : Nat} {H : Hp} {Q : VK} (hz : z.length ≤ sizeLine) (e : atI z.cps.toList a = some c) (k : Q (.str ⟨#[c]⟩) H) : rIxS (.str z) (.int a) H Q := ⟨z, a, c, rfl, rfl, hz, e, k⟩
theorem T_rjust (l : List Nat) (n c : Nat) : Txt.rjustF (T l) (n : Int) c = T (List.replicate (n - l.length) c ++ l) := by
  unfold Txt.rjustF
  rw [T_len]
  split
  · rw [show n - l.length = 0 from by omega]
    rfl
  · show (⟨Array.replicate _ c ++ l.toArray ++ Array.replicate 0 c⟩ : Str) = _
    rw [Int.toNat_natCast]
    unfold T
    congr 1
    rw [← List.toArray_replicate]
    simp
/-! ### new objects -/
theorem sz {n : Nat} (h : n ≤ 100000) : n ≤ sizeLine := Nat.le_trans h (by decide)
theorem szl {n : Nat} (h : n ≤ 100000) : n < sizeLine := Nat.lt_of_le_of_lt h (by decide)

theorem s_setN {H : Hp} {v : V} {p : Addr} {xs : List V} {a : Int} {m : Nat} {R : Hp → Prop} (h : H p = some (.lst xs)) (e : ixN xs.length a = some m) (ys : List V) (hy : xs.set m v = ys) (k : ∀ H', Fr p H H' → H' p = some (.lst ys) → R H') : rSetL (.ref p) (.int a) v H R :=
  ⟨p, xs, a, m, rfl, rfl, h, e, by rw [hy]; exact k _ Fr.upd upd_same⟩
/-! ### the drawing bag -/
structure Bag (H : Hp) (b c : Addr) : Prop where
  ex : ∃ (cells : List Int) (i : Nat) (big salt : Int), H b = some (.lst [.ref c, .int i, .int big, .int salt]) ∧ H c = some (.lst (cells.map V.int)) ∧ i ≤ cells.length ∧ 0 ≤ big ∧ 0 ≤ salt ∧ salt < 2147483647
theorem bag_ne {H : Hp} {b c : Addr} {xs : List V} {cells : List Int} (h1 : H b = some (.lst (.ref c :: xs))) (h2 : H c = some (.lst (cells.map V.int))) : c ≠ b := by
  intro e
  subst e
  rw [h1] at h2
  injection h2 with h2
  injection h2 with h2
  cases cells with
  | nil => cases h2
  | cons y ys => injection h2 with h2; cases h2
theorem Bag.getb {H : Hp} {b c : Addr} (B : Bag H b c) : ∃ xs, H b = some (.lst xs) := by
  obtain ⟨_, _, _, _, h, _⟩ := B.ex
  exact ⟨_, h⟩
theorem Bag.getc {H : Hp} {b c : Addr} (B : Bag H b c) : ∃ xs, H c = some (.lst xs) := by
  obtain ⟨_, _, _, _, _, h, _⟩ := B.ex
  exact ⟨_, h⟩
theorem Bag.neb {H : Hp} {b c p : Addr} (B : Bag H b c) (h : H p = none) : p ≠ b := by
  obtain ⟨_, q⟩ := B.getb
  exact (ne_of_none q h).symm
theorem Bag.nec {H : Hp} {b c p : Addr} (B : Bag H b c) (h : H p = none) : p ≠ c := by
  obtain ⟨_, q⟩ := B.getc
  exact (ne_of_none q h).symm
theorem neb_of {H : Hp} {b c p : Addr} (h : H p = none) (B : Bag H b c) : p ≠ b := B.neb h
theorem nec_of {H : Hp} {b c p : Addr} (h : H p = none) (B : Bag H b c) : p ≠ c := B.nec h
theorem Bag.cb {H : Hp} {b c : Addr} (B : Bag H b c) : c ≠ b := by
  obtain ⟨_, _, _, _, h1, h2, _⟩ := B.ex
  exact bag_ne h1 h2
theorem Bag.ext {H H' : Hp} {b c : Addr} (B : Bag H b c) (e : Ex H H') : Bag H' b c := by
  obtain ⟨cells, i, big, salt, h1, h2, r⟩ := B.ex
  exact ⟨cells, i, big, salt, e _ _ h1, e _ _ h2, r⟩
theorem Bag.frs {H H' : Hp} {b c D : Addr} (B : Bag H b c) (n1 : D ≠ b) (n2 : D ≠ c) (e : Fr D H H') : Bag H' b c := by
  obtain ⟨cells, i, big, salt, h1, h2, r⟩ := B.ex
  exact ⟨cells, i, big, salt, e _ _ n1.symm h1, e _ _ n2.symm h2, r⟩
theorem Bag.mk' {H : Hp} {b c : Addr} {cells : List Int} {i : Nat} {big salt : Int} (h1 : H b = some (HO.lst [.ref c, .int i, .int big, .int salt])) (h2 : H c = some (HO.lst (cells.map V.int))) (h3 : i ≤ cells.length) (h4 : 0 ≤ big) (h5 : 0 ≤ salt ∧ salt < 2147483647) : Bag H b c :=
  ⟨cells, i, big, salt, h1, h2, h3, h4, h5.1, h5.2⟩
def spPull : Sp := fun vs H Q _ => ∃ (b c : Addr) (n : Int), vs = [.ref b, .int n] ∧ Bag H b c ∧ 0 < n ∧ n < 2 ^ 200 ∧ ∀ z H', 0 ≤ z → z < n → Bag H' b c → Fr b H H' → Q (.int z) H'
def spBag (K : PySem.W.Frag) : Sp := fun vs H Q _ => ∃ (a : Addr) (ns : List Int), vs = [.ref a] ∧ SqL K H a (ns.map V.int) ∧ ns.length ≤ 63 ∧ ∀ b c H', H b = none → H c = none → Ex H H' → Bag H' b c → Q (.ref b) H'
theorem use_pull {H : Hp} {b c : Addr} {n : Int} {Q : VK} {E : XK} (B : Bag H b c) (h : 0 < n ∧ n < 2 ^ 200) (k : ∀ z H', 0 ≤ z → z < n → Bag H' b c → Fr b H H' → Q (.int z) H') : spPull ([.ref b, .int n] ++ []) H Q E :=
  ⟨b, c, n, rfl, B, h.1, h.2, k⟩

/-! ### what cannot change: the heap without the addresses that may -/
def wos (M : List Addr) (H : Hp) : Hp := fun a => if a ∈ M then none else H a
theorem wos_some {M : List Addr} {a : Addr} {H : Hp} {o : HO} (h : wos M H a = some o) : a ∉ M ∧ H a = some o := by
  unfold wos at h
  split at h
  · cases h
  · exact ⟨by assumption, h⟩
theorem wos_mk {M : List Addr} {a : Addr} {H : Hp} {o : HO} (n : a ∉ M) (h : H a = some o) : wos M H a = some o := by
  unfold wos
  rw [if_neg n]
  exact h
theorem wos_ex {M : List Addr} {H : Hp} : Ex (wos M H) H := fun _ _ h => (wos_some h).2
theorem wos_nil {H : Hp} : Ex H (wos [] H) := fun _ _ h => wos_mk (by simp) h
theorem Ex.wos {M : List Addr} {H H' : Hp} (e : Ex H H') : Ex (Z.wos M H) (Z.wos M H') := fun a o h => wos_mk (wos_some h).1 (e a o (wos_some h).2)
theorem Fr.wos {M : List Addr} {b : Addr} {H H' : Hp} (e : Fr b H H') (hb : b ∈ M) : Ex (Z.wos M H) (Z.wos M H') := fun a o h =>
  wos_mk (wos_some h).1 (e a o (fun q => (wos_some h).1 (by rw [q]; exact hb)) (wos_some h).2)
/-- an address more that may change: it is new -/
theorem wos_more {M : List Addr} {D : Addr} {H H' : Hp} (e : Ex H H') (n : H D = none) : Ex (wos M H) (wos (D :: M) H') := fun a o h => by
  have h1 := wos_some h
  refine wos_mk ?_ (e _ _ h1.2)
  intro q
  rcases List.mem_cons.mp q with q | q
  · rw [q, n] at h1
    cases h1.2
  · exact h1.1 q
/-- one that has come to rest -/
theorem wos_less {M : List Addr} {D : Addr} {H : Hp} : Ex (wos (D :: M) H) (wos M H) := fun _ _ h => wos_mk (fun q => (wos_some h).1 (List.mem_cons_of_mem _ q)) (wos_some h).2
theorem wos_new {M : List Addr} {p : Addr} {H H' : Hp} {o : HO} (n : H p = none) (hM : ∀ a ∈ M, H a ≠ none) (h : H' p = some o) : Z.wos M H' p = some o := wos_mk (fun q => hM _ q n) h

theorem cut63 {xs : List V} (h : xs.length ≤ 63) : cutV xs none (some 63) = xs := by
  unfold cutV
  have e : HT.sIx xs.length xs.length (some 63) = xs.length := by
    rw [show (63 : Int) = ((63 : Nat) : Int) from rfl, HT.sIx_nat]
    omega
  rw [HT.sIx_none, e]
  simp
theorem map_int_get {ns : List Int} {i : Nat} {x : V} (h : (ns.map V.int)[i]? = some x) : ∃ y, x = V.int y := by
  rw [List.getElem?_map] at h
  cases e : ns[i]? with
  | none => rw [e] at h; cases h
  | some y => rw [e] at h; exact ⟨y, (Option.some.inj h).symm⟩
/-! ### comprehensions -/
def LcW (J : It) (g : TG) (tt : TT) (te : TE) (vs : List Nat) (σ : L2.St) (H1 : Hp) (Q : VK) : Prop := ∀ D, H1 D = none → ∃ W : Nat → Nat → Hp → Prop, (∃ m, W 0 m (upd H1 D (.lst []))) ∧ ∀ i m H, W i m H →
  (J.stop i H ∧ Q (.ref D) H) ∨ (J.go i H ∧ ∃ Nx : Hp → Prop, (∀ H', Nx H' → ∃ m', m' < m ∧ W (i + 1) m' H') ∧ ∀ x H', J.yld i H x H' → g x (wipe σ vs) H' fun σ2 H2 => wipe σ2 vs = wipe σ vs ∧ tt σ2 H2 fun b H3 =>
    if b = true then te σ2 H3 fun y H4 => ∃ acc, H4 D = some (.lst acc) ∧ acc.length < sizeLine ∧ Nx (upd H4 D (.lst (acc ++ [y]))) else Nx H3)
theorem s_lc {wi : TI} {g : TG} {tt : TT} {te : TE} {vs : List Nat} {σ : L2.St} {H : Hp} {Q : VK} (k : wi σ H fun J H1 => LcW J g tt te vs σ H1 Q) : tLc wi g tt te vs σ H Q := k
theorem s_yes {σ : L2.St} {H : Hp} {R : Bool → Hp → Prop} (k : R true H) : tYes σ H R := k
/-- between two turns: D holds what has been made -/
def Cv (Iv : Addr → Hp → Prop) (R : Addr → Nat → List V → Hp → Prop) (D : Addr) (i : Nat) (H : Hp) : Prop := ∃ l, Iv D H ∧ H D = some (.lst l) ∧ l.length ≤ i ∧ R D i l H
theorem c_put {Iv : Addr → Hp → Prop} {R : Addr → Nat → List V → Hp → Prop} {D : Addr} {i : Nat} {H4 : Hp} {l : List V} {y : V} (h : H4 D = some (.lst l)) (hz : l.length ≤ i ∧ i < 50000) (k : ∀ H5, Fr D H4 H5 → H5 D = some (.lst (l ++ [y])) → Iv D H5 ∧ R D (i + 1) (l ++ [y]) H5) :
    ∃ acc, H4 D = some (.lst acc) ∧ acc.length < sizeLine ∧ Cv Iv R D (i + 1) (upd H4 D (.lst (acc ++ [y]))) := by
  obtain ⟨a, r⟩ := k _ Fr.upd upd_same
  exact ⟨l, h, szl (by omega), l ++ [y], a, upd_same, by rw [List.length_append, List.length_singleton]; omega, r⟩
theorem c_skip {Iv : Addr → Hp → Prop} {R : Addr → Nat → List V → Hp → Prop} {D : Addr} {i : Nat} {H4 : Hp} {l : List V} (h : H4 D = some (.lst l)) (hz : l.length ≤ i) (a : Iv D H4) (r : R D (i + 1) l H4) : Cv Iv R D (i + 1) H4 := ⟨l, a, h, by omega, r⟩
/-- over any walk: the new list D is held apart; R speaks of what has been made -/
theorem c_it {J : It} {n : Nat} {G : Hp → Prop} {Y : Nat → Hp → V → Hp → Prop} {g : TG} {tt : TT} {te : TE} {vs : List Nat} {σ : L2.St} {H : Hp} {Q : VK} (w : Walk J n G Y) (Iv : Addr → Hp → Prop) (R : Addr → Nat → List V → Hp → Prop)
    (h0 : ∀ D H', H D = none → Ex H H' → H' D = some (.lst []) → Iv D H' ∧ R D 0 [] H') (hG : ∀ D H', Iv D H' → G H')
    (hs : ∀ D i l H1 x H1', i < n → Iv D H1 → H1 D = some (.lst l) → l.length ≤ i → R D i l H1 → Y i H1 x H1' → g x (wipe σ vs) H1' fun σ2 H2 => wipe σ2 vs = wipe σ vs ∧ tt σ2 H2 fun b H3 =>
      if b = true then te σ2 H3 fun y H4 => ∃ acc, H4 D = some (.lst acc) ∧ acc.length < sizeLine ∧ Cv Iv R D (i + 1) (upd H4 D (.lst (acc ++ [y]))) else Cv Iv R D (i + 1) H3)
    (hd : ∀ D l H', Iv D H' → H' D = some (.lst l) → l.length ≤ n → R D n l H' → Q (.ref D) H') : LcW J g tt te vs σ H Q := by
  intro D hD
  refine lc_it w (Cv Iv R D) ?_ (fun i H' _ p => ?_) (fun i x H1 H1' hi p y => ?_) (fun H' p => ?_)
  · obtain ⟨a, b⟩ := h0 D _ hD (Ex.new hD) upd_same
    exact ⟨[], a, upd_same, Nat.le_refl _, b⟩
  · obtain ⟨l, a, _⟩ := p
    exact hG _ _ a
  · obtain ⟨l, a, hl, hz, r⟩ := p
    exact hs D i l H1 x H1' hi a hl hz r y
  · obtain ⟨l, a, hl, hz, r⟩ := p
    exact hd D l H' a hl hz r
theorem c_range {n : Int} {g : TG} {tt : TT} {te : TE} {vs : List Nat} {σ : L2.St} {H : Hp} {Q : VK} (b : -(2 ^ 62) ≤ n ∧ n < 2 ^ 62) (Iv : Addr → Hp → Prop) (R : Addr → Nat → List V → Hp → Prop)
    (h0 : ∀ D H', H D = none → Ex H H' → H' D = some (.lst []) → Iv D H' ∧ R D 0 [] H')
    (hs : ∀ D (i : Nat) l H1, (i : Int) < n → Iv D H1 → H1 D = some (.lst l) → l.length ≤ i → R D i l H1 → g (.int (i : Int)) (wipe σ vs) H1 fun σ2 H2 => wipe σ2 vs = wipe σ vs ∧ tt σ2 H2 fun b H3 =>
      if b = true then te σ2 H3 fun y H4 => ∃ acc, H4 D = some (.lst acc) ∧ acc.length < sizeLine ∧ Cv Iv R D (i + 1) (upd H4 D (.lst (acc ++ [y]))) else Cv Iv R D (i + 1) H3)
    (hd : ∀ D l H', Iv D H' → H' D = some (.lst l) → l.length ≤ n.toNat → R D n.toNat l H' → Q (.ref D) H') :
    ∃ j : Int, [V.int n] = [.int j] ∧ -(2 ^ 62) ≤ j ∧ j < 2 ^ 62 ∧ LcW (Itr 0 j.toNat) g tt te vs σ H Q :=
  ⟨n, rfl, b.1, b.2, c_it walk_range Iv R h0 (fun _ _ _ => trivial) (fun D i l H1 x H1' hi a hl hz r y => by
    obtain ⟨e, y⟩ := y
    subst e y
    have e0 : (0 : Int) + (i : Int) = (i : Int) := Int.zero_add _
    dsimp only
    rw [e0]
    exact hs D i l _ (by omega) a hl hz r) hd⟩
theorem c_list {K : PySem.W.Frag} {a : Addr} {g : TG} {tt : TT} {te : TE} {vs : List Nat} {σ : L2.St} {H : Hp} {Q : VK} (xs : List V) (h : SqL K H a xs) (Iv : Addr → Hp → Prop) (R : Addr → Nat → List V → Hp → Prop)
    (h0 : ∀ D H', H D = none → Ex H H' → H' D = some (.lst []) → Iv D H' ∧ R D 0 [] H') (hG : ∀ D H', Iv D H' → SqL K H' a xs)
    (hs : ∀ D i l H1 x, xs[i]? = some x → Iv D H1 → H1 D = some (.lst l) → l.length ≤ i → R D i l H1 → g x (wipe σ vs) H1 fun σ2 H2 => wipe σ2 vs = wipe σ vs ∧ tt σ2 H2 fun b H3 =>
      if b = true then te σ2 H3 fun y H4 => ∃ acc, H4 D = some (.lst acc) ∧ acc.length < sizeLine ∧ Cv Iv R D (i + 1) (upd H4 D (.lst (acc ++ [y]))) else Cv Iv R D (i + 1) H3)
    (hd : ∀ D l H', Iv D H' → H' D = some (.lst l) → l.length ≤ xs.length → R D xs.length l H' → Q (.ref D) H') :
    ∃ a', V.ref a = .ref a' ∧ (∃ xs, SqL K H a' xs) ∧ LcW (Itl K a') g tt te vs σ H Q :=
  ⟨a, rfl, ⟨xs, h⟩, c_it walk_list Iv R h0 hG (fun D i l H1 x H1' hi a hl hz r y => by
    obtain ⟨e, y⟩ := y
    subst e
    exact hs D i l _ x y a hl hz r) hd⟩
theorem c_tup {K : PySem.W.Frag} {a : Addr} {g : TG} {tt : TT} {te : TE} {vs : List Nat} {σ : L2.St} {H : Hp} {Q : VK} (xs : List V) (h : SqT K H a xs) (Iv : Addr → Hp → Prop) (R : Addr → Nat → List V → Hp → Prop)
    (h0 : ∀ D H', H D = none → Ex H H' → H' D = some (.lst []) → Iv D H' ∧ R D 0 [] H') (hG : ∀ D H', Iv D H' → SqT K H' a xs)
    (hs : ∀ D i l H1 x, xs[i]? = some x → Iv D H1 → H1 D = some (.lst l) → l.length ≤ i → R D i l H1 → g x (wipe σ vs) H1 fun σ2 H2 => wipe σ2 vs = wipe σ vs ∧ tt σ2 H2 fun b H3 =>
      if b = true then te σ2 H3 fun y H4 => ∃ acc, H4 D = some (.lst acc) ∧ acc.length < sizeLine ∧ Cv Iv R D (i + 1) (upd H4 D (.lst (acc ++ [y]))) else Cv Iv R D (i + 1) H3)
    (hd : ∀ D l H', Iv D H' → H' D = some (.lst l) → l.length ≤ xs.length → R D xs.length l H' → Q (.ref D) H') :
    ∃ a', V.ref a = .ref a' ∧ (∃ xs, SqT K H a' xs) ∧ LcW (Itt K a') g tt te vs σ H Q :=
  ⟨a, rfl, ⟨xs, h⟩, c_it walk_tup Iv R h0 hG (fun D i l H1 x H1' hi a hl hz r y => by
    obtain ⟨e, y⟩ := y
    subst e
    exact hs D i l _ x y a hl hz r) hd⟩

/-- the law: a list of at most 63 ints is handed in, True comes out -/
def spLaw (K : PySem.W.Frag) : Sp := fun vs H Q _ => ∃ (a : Addr) (ns : List Int), vs = [.ref a] ∧ SqL K H a (ns.map V.int) ∧ ns.length ≤ 63 ∧ ∀ H', Q (.bl true) H'
theorem exm_self {K : PySem.W.Frag} {S : Addr} (h1 : PySem.W.subIn K (.ref S) (.type "BaseException") = some true) (h2 : PySem.W.isClsIn K S = true) (h3 : PySem.W.typeIn K (.ref S) = some (.type "type")) (h4 : PySem.W.subIn K (.ref S) (.ref S) = some true) :
    PySem.W.exmOne K (.ref S) (.ref S) = some true := by
  have e1 : (PySem.W.subIn K (.ref S) (.type "BaseException") == some true) = true := by rw [h1] <;> rfl
  have e2 : ((PySem.W.clsIn K S).isSome && PySem.W.typeIn K (.ref S) == some (.type "type")) = true := by
    rw [h3]
    have e3 : (PySem.W.clsIn K S).isSome = true := h2
    rw [e3] <;> rfl
  show (if (PySem.W.subIn K (.ref S) (.type "BaseException") == some true) = true then (if ((PySem.W.clsIn K S).isSome && PySem.W.typeIn K (.ref S) == some (.type "type")) = true then PySem.W.subIn K (.ref S) (.ref S) else none) else none) = some true
  rw [if_pos e1, if_pos e2, h4]
theorem Str_len_app (a b : Str) : (a ++ b).length = a.length + b.length := by
  show (a.cps ++ b.cps).size = _
  rw [Array.size_append]
  rfl
theorem s_callS {sp : Sp} {E : L2.St → XK} {tr : TA} {σ : L2.St} {H : Hp} {Q : VK} (k : tr σ H fun vs H1 => sp vs H1 Q (E σ)) : tCallS sp E tr σ H Q := k
/-- a whole number within bounds -/
def R (lo hi n : Int) : Prop := lo ≤ n ∧ n ≤ hi
def IntIn (lo hi : Int) (v : V) : Prop := ∃ n, v = .int n ∧ R lo hi n
theorem intIn_cons {lo hi n : Int} {xs : List V} (h : R lo hi n) (k : ∀ v ∈ xs, IntIn lo hi v) : ∀ v ∈ V.int n :: xs, IntIn lo hi v := fun v hv => by
  rcases List.mem_cons.mp hv with e | hv
  · exact ⟨n, e, h⟩
  · exact k v hv
theorem intIn_nil {lo hi : Int} : ∀ v ∈ ([] : List V), IntIn lo hi v := fun v hv => by cases hv
def spInt (lo hi : Int) : Sp := fun vs H Q _ => ∃ b c : Addr, vs = [.ref b] ∧ Bag H b c ∧ ∀ z H', lo ≤ z → z ≤ hi → Bag H' b c → Fr b H H' → Q (.int z) H'
theorem use_int {lo hi : Int} {H : Hp} {b c : Addr} {Q : VK} {E : XK} (B : Bag H b c) (k : ∀ z H', lo ≤ z → z ≤ hi → Bag H' b c → Fr b H H' → Q (.int z) H') : spInt lo hi ([.ref b] ++ []) H Q E := ⟨b, c, rfl, B, k⟩
/-! ### kinds -/
theorem kb_int_tuple : kitB "int" "tuple" = some false := by decide +kernel
theorem kb_int_list : kitB "int" "list" = some false := by decide +kernel
theorem kb_int_bool : kitB "int" "bool" = some false := by decide +kernel
theorem kb_int_int : kitB "int" "int" = some true := by decide +kernel
theorem kb_str_tuple : kitB "str" "tuple" = some false := by decide +kernel
theorem kb_str_list : kitB "str" "list" = some false := by decide +kernel
theorem kb_str_bool : kitB "str" "bool" = some false := by decide +kernel
theorem kb_str_int : kitB "str" "int" = some false := by decide +kernel
theorem kb_bool_tuple : kitB "bool" "tuple" = some false := by decide +kernel
theorem kb_bool_list : kitB "bool" "list" = some false := by decide +kernel
theorem kb_bool_bool : kitB "bool" "bool" = some true := by decide +kernel
theorem kb_bool_int : kitB "bool" "int" = some true := by decide +kernel
theorem kb_NoneType_tuple : kitB "NoneType" "tuple" = some false := by decide +kernel
theorem kb_NoneType_list : kitB "NoneType" "list" = some false := by decide +kernel
theorem kb_NoneType_bool : kitB "NoneType" "bool" = some false := by decide +kernel
theorem kb_NoneType_int : kitB "NoneType" "int" = some false := by decide +kernel
theorem kb_tuple_tuple : kitB "tuple" "tuple" = some true := by decide +kernel
theorem kb_tuple_list : kitB "tuple" "list" = some false := by decide +kernel
theorem kb_tuple_bool : kitB "tuple" "bool" = some false := by decide +kernel
theorem kb_tuple_int : kitB "tuple" "int" = some false := by decide +kernel
theorem kb_list_tuple : kitB "list" "tuple" = some false := by decide +kernel
theorem kb_list_list : kitB "list" "list" = some true := by decide +kernel
theorem kb_list_bool : kitB "list" "bool" = some false := by decide +kernel
theorem kb_list_int : kitB "list" "int" = some false := by decide +kernel

section
variable {K : PySem.W.Frag} {H H' : Hp} {Q : VK} {x v : V}
theorem ty_sqL {a : Addr} {xs : List V} (h : SqL K H a xs) : TyX K H (.ref a) (.type "list") := by
  rcases h with (h | ⟨o, h⟩) | ⟨o, its, n, h, c, _⟩
  · exact .base (.lst h)
  · exact .base (.frz h)
  · exact .kList h c
theorem ty_sqT {a : Addr} {xs : List V} (h : SqT K H a xs) : TyX K H (.ref a) (.type "tuple") := by
  rcases h with (h | ⟨o, h⟩) | ⟨o, its, n, h, c, _⟩
  · exact .base (.tup h)
  · exact .fTuple h
  · exact .kTuple h c
theorem s_isi {n m : String} {b : Bool} (ty : TyX K H x (.type n)) (e : kitB n m = some b) (k : Q (.bl b) H) : rIsi K [x, .ty m] H Q := ⟨x, .ty m, .type n, .type m, b, rfl, .ty m, ty, kit_ty e, k⟩
theorem s_isiTL {n : String} {b c : Bool} {tp : Addr} (h : H tp = some (.tup [.ty "tuple", .ty "list"])) (ty : TyX K H x (.type n)) (e : kitB n "tuple" = some b) (e' : kitB n "list" = some c) (k : Q (.bl (b || c)) H) : rIsiT K [x, .ref tp] H Q := by
  refine ⟨x, tp, _, .type n, [.type "tuple", .type "list"], _, rfl, h, .cons (.ty _) (.cons (.ty _) .nil), ty, ?_, k⟩
  cases b with
  | true => exact kitAny_cons (kit_ty e) (fun z => by cases z) (fun _ => rfl)
  | false =>
    refine kitAny_cons (kit_ty e) (fun _ => ?_) (fun z => by cases z)
    cases c with
    | true => exact kitAny_cons (kit_ty e') (fun z => by cases z) (fun _ => rfl)
    | false => exact kitAny_cons (kit_ty e') (fun _ => kitAny_nil) (fun z => by cases z)
end

/-! ### data -/
mutual
theorem dp_ex {K : PySem.W.Frag} {H H' : Hp} (e : Ex H H') : ∀ {v : V} {d : PyData}, Dp K H v d → Dp K H' v d
  | _, _, .non => .non
  | _, _, .bl b => .bl b
  | _, _, .int i => .int i
  | _, _, .str x => .str x
  | _, _, .lst h r => .lst (Ex.sqL e h) (dpAll_ex e r)
  | _, _, .tup h r => .tup (Ex.sqT e h) (dpAll_ex e r)
theorem dpAll_ex {K : PySem.W.Frag} {H H' : Hp} (e : Ex H H') : ∀ {vs : List V} {ds : List PyData}, DpAll K H vs ds → DpAll K H' vs ds
  | _, _, .nil => .nil
  | _, _, .cons h r => .cons (dp_ex e h) (dpAll_ex e r)
end
theorem dpAll_len {K : PySem.W.Frag} {H : Hp} : ∀ {vs : List V} {ds : List PyData}, DpAll K H vs ds → vs.length = ds.length
  | _, _, .nil => rfl
  | _, _, .cons _ r => congrArg Nat.succ (dpAll_len r)
theorem dpAll_get {K : PySem.W.Frag} {H : Hp} : ∀ {vs : List V} {ds : List PyData} {i : Nat} {v : V} {d : PyData}, DpAll K H vs ds → vs[i]? = some v → ds[i]? = some d → Dp K H v d
  | _, _, _, _, _, .nil, h, _ => by cases h
  | _, _, 0, _, _, .cons h _, e1, e2 => by
    cases e1
    cases e2
    exact h
  | _, _, i + 1, _, _, .cons _ r, e1, e2 => dpAll_get (i := i) r (by simpa using e1) (by simpa using e2)
/-- data of a bounded depth, its sequences bounded -/
def DOk : Nat → PyData → Prop
  | 0, _ => False
  | n + 1, .list ds => ds.length ≤ 1000 ∧ ∀ d ∈ ds, DOk n d
  | n + 1, .tuple ds => ds.length ≤ 1000 ∧ ∀ d ∈ ds, DOk n d
  | _ + 1, .dict _ => False
  | _ + 1, _ => True
def spLike (K : PySem.W.Frag) (n : Nat) : Sp := fun vs H Q _ => ∃ x y d, vs = [x, y] ∧ Dp K H x d ∧ Dp K H y d ∧ DOk n d ∧ ∀ H', Ex H H' → Q (.bl true) H'
theorem fnOk_no {P : Program} {w : World} {K : PySem.W.Frag} {mg : Str → Option Value} {base : Heap} {CX : CXT} {k : Nat} {f : Addr} {fd : FuncData} {ps : List Str} {sp : Sp} (h : ∀ vs H Q E, sp vs H Q E → False) : FnOk P w K mg base CX k f fd ps sp :=
  ⟨fun vs H Q E q => (h _ _ _ _ q).elim, fun _ _ _ _ _ _ _ _ _ _ _ _ _ q => (h _ _ _ _ q).elim⟩
theorem like_no {K : PySem.W.Frag} : ∀ vs H Q E, spLike K 0 vs H Q E → False := fun vs H Q E h => by
  obtain ⟨x, y, d, _, _, _, ok, _⟩ := h
  exact ok
theorem ite_tE {c : Bool} {A B : Prop} (h : c = true) (k : A) : if c = true then A else B := by rw [if_pos h]; exact k
theorem ite_fE {c : Bool} {A B : Prop} (h : c = false) (k : B) : if c = true then A else B := by rw [h]; exact ite_f k
theorem ev_blT {c : Bool} {Q : VK} {H : Hp} (h : c = true) (k : Q (.bl true) H) : Q (.bl c) H := by rw [h]; exact k
end Z

set_option Elab.async false
set_option linter.all false
set_option maxRecDepth 100000
namespace Z
open PySem L2
/-! instances of an own class: ==, !=, str, repr by their own methods -/
section
open PySem.W PyProof.Rows
variable {P : Program} {w : World} {A : Around} {E : Value → Shared → Prop} {s : Shared} {K : Frag} {x C L f : Addr} {h0 : Heap} {m : Str → Option Value} {ox : Obj} {od : Option Obj} {b tb : Value}
theorem ifBoundB {M : Model} {name : Str} {id : String} {args : List Value} {Q : Option Value → Shared → Prop} (X : K.In s.heap) (I : InstAt s.heap x ox C od) (hs : findIn K (.ref C) name = some (some (.builtin id)))
    (hb : ∀ v, bindSpecial (.builtin id) v = pure (.builtin id, [v])) (h : wpAny M A (call (.builtin id) (.ref x :: args)) (fun v => Q (some v)) E s) : wpAny M A (callSpecialIfBound? (.ref x) name args) Q E s := by
  simp only [callSpecialIfBound?, bindSpecialIfBound?]
  refine wpAny_holding (wpAny_bind (wpAny_bind (wpAny_bind (I.type.here ((looks_findIn X hs).here ?_)))))
  refine wpAny_bind (wpAny_askSetting (wpAny_ite ?_))
  have last : wpAny M A (call (.builtin id) ([.ref x] ++ args) >>= fun v => pure (some v)) Q E s := wpAny_bind (wpAny_mono h (fun v s' z => wpAny_pure z) fun _ _ z => z)
  split
  · exact wpAny_bind ((Looks.of_pure (hb _)).here (wpAny_pure (by exact last)))
  · exact wpAny_tryCatch (wpAny_bind ((Looks.of_pure (hb _)).here (wpAny_pure (by exact last))))
open Builtin in
theorem ne_slot {Q : Value → Shared → Prop} (hu : A.in1.units < cLine) (X : K.In s.heap) (I : InstAt s.heap x ox C od) (ho : mroIn K C (.type "object") = some true) (he : findIn K (.ref C) "__eq__" = some (some (.ref f))) (hf : isFn K (.ref f) = true)
    (h : wpAny (model P w) A.in1 (call (.ref f) [.ref x, b]) (fun v s' => ∃ r, v = .bool r ∧ Q (.bool (!r)) s') E s) : wpAny (model P w) A (call (.builtin "object.__ne__") [.ref x, b]) Q E s := by
  refine wpAny_call (codeAny_call_builtin (by decide +kernel) PySem.F.cmpEntry_ne (check_slot (i := "object.__ne__") (owner := "object") (n := "__ne__") (by decide +kernel) (by decide +kernel) (I.type.andThen (looks_mroIn X ho)) (PySem.F.cmpArgs_ne _ _) ?_))
  unfold Builtin.«object.__ne__»
  refine wpAny_bind (m := slotArgs "__ne__" 1 _) (wpAny_pure ?_)
  refine wpAny_bind (m := cRoomFor _ _) (wpAny_cRoomFor hu ?_)
  refine wpAny_bind (m := callSpecialIfBound? (.ref x) (Str.ofString "__eq__") _) (ifBound_K X I he hf (wpAny_mono h (fun r s' hq => ?_) fun _ _ y => y))
  obtain ⟨r, rfl, hq⟩ := hq
  exact wpAny_bind (wpAny_truthy_bool (wpAny_pure hq))
theorem ne_own {Q : Value → Shared → Prop} (hu : A.units < cLine) (hu1 : A.in1.units < cLine) (X : K.In s.heap) (I : InstAt s.heap x ox C od) (hb : Looks (model P w) s.heap (typeOf b) tb) (hn : notFirst K C tb = true)
    (hs : findIn K (.ref C) "__ne__" = some (some (.builtin "object.__ne__"))) (ho : mroIn K C (.type "object") = some true) (he : findIn K (.ref C) "__eq__" = some (some (.ref f))) (hf : isFn K (.ref f) = true)
    (h : wpAny (model P w) A.in1 (call (.ref f) [.ref x, b]) (fun v s' => ∃ r, v = .bool r ∧ Q (.bool (!r)) s') E s) : wpAny (model P w) A (richCompare .NotEq (.ref x) b) Q E s := by
  have one : wpAny (model P w) A (tryCompare (.ref x) "__ne__" b) (fun r s' => ∃ v, r = some v ∧ Q v s') E s := by
    unfold tryCompare
    refine wpAny_bind (ifBoundB X I hs PySem.F.slot_tuple_iterator_ne.bind (ne_slot hu1 X I ho he hf (wpAny_mono h (fun v s' hv => ?_) fun _ _ e => e)))
    obtain ⟨r, rfl, hq⟩ := hv
    exact ⟨r, rfl, wpAny_pure ⟨_, rfl, hq⟩⟩
  unfold richCompare
  simp only [oneThing_ref]
  refine wpAny_holding (wpAny_bind (wpAny_cRoomFor hu ?_))
  refine wpAny_bind (I.type.here (wpAny_bind (hb.here ?_)))
  split
  · rename_i q
    have e : subIn K tb (.ref C) = some false := by
      rcases Bool.or_eq_true_iff.mp hn with e | e
      · rw [beq_iff_eq.mp e] at q
        simp at q
      · exact beq_iff_eq.mp e
    refine wpAny_bind ((looks_subIn X e).here ?_)
    simp only [Bool.false_eq_true, if_false]
    refine wpAny_bind (wpAny_mono one (fun r s' z => ?_) fun _ _ e => e)
    obtain ⟨v, rfl, hq⟩ := z
    exact wpAny_pure hq
  · refine wpAny_bind (wpAny_pure ?_)
    simp only [Bool.false_eq_true, if_false]
    refine wpAny_bind (wpAny_mono one (fun r s' z => ?_) fun _ _ e => e)
    obtain ⟨v, rfl, hq⟩ := z
    exact wpAny_pure hq
open Builtin in
theorem repr_own {Q : Value → Shared → Prop} (hu : A.in1.units < cLine) (X : K.In s.heap) (I : InstAt s.heap x ox C od) (hs : findIn K (.ref C) "__repr__" = some (some (.ref f))) (hf : isFn K (.ref f) = true)
    (h : wpAny (model P w) A.in1 (call (.ref f) [.ref x]) (fun v s' => ∃ y t, v = .str y t ∧ Q v s') E s) : wpAny (model P w) A (call (.builtin "repr") [.ref x]) Q E s := by
  refine Calls.call_function_entry PySem.F.kind_repr PySem.F.plain_repr PySem.F.entry_repr (PySem.F.args_repr1 _) ?_
  unfold Builtin.«repr»
  refine wpAny_bind (m := oneArg "repr" _) (wpAny_pure ?_)
  refine wpAny_bind (m := cRoomFor _ _) (wpAny_cRoomFor hu ?_)
  refine wpAny_bind (m := specialOf (.ref x) (Str.ofString "__repr__")) (wpAny_bind (I.type.here ((looks_findIn X hs).here ?_)))
  simp only [Option.isNone_some, Bool.false_eq_true, if_false]
  refine wpAny_bind (m := callSpecialIfBound? (.ref x) (Str.ofString "__repr__") _) (ifBound_K X I hs hf (wpAny_mono h (fun r s' hq => ?_) fun _ _ y => y))
  obtain ⟨y, t, rfl, hq⟩ := hq
  refine wpAny_bind (wpAny_isInstance (T := "str") (b := true) (typeIs_str _ _ _) isSubtype_str_str ?_)
  rw [if_pos rfl]
  exact wpAny_pure ⟨_, rfl, hq⟩
end
section
variable {X : Cx} {n : Nat} {pins : List (Addr × Obj)} {σ : L2.St} {H : Hp} {s : Shared} {A : Around} {CX : CXT} {f : Addr} {fd : FuncData} {ps : List Str} {sp : Sp} {E : XK} {C a : Addr}
theorem own_call {us : List Value} {vs : List V} {Q : VK} (F : FnOk X.prog X.w X.K X.mg X.base CX n f fd ps sp) (hb : Binds X.K fd ps []) (hx : Passes CX X E) (sb : Sub X n A) (I : Inv X pins σ H s) (r : Vals vs us) (h : sp vs H Q E) :
    wpAny (model X.prog X.w) A (call (.ref f) us) (EP X pins σ Q) X.xe s := by
  have e0 : Env0 X.prog X.w X.K X.mg X.base A X.stack s H := by
    have e := I.env0
    exact ⟨by rw [sb.fr]; exact e.frames, e.mod, e.bs, e.bsz, e.funs, e.frf, e.hok, e.bare⟩
  have hl := F.len _ _ _ _ h
  have hb2 := hb s us I.kIn (by rw [List.append_nil, ← r.length]; exact hl)
  rw [List.append_nil] at hb2
  refine wpAny_call (codeAny_mono (F.run A X.stack s H ⟨us, []⟩ us vs _ E sb.room e0 hb2 r h) fun q s' hq => ?_)
  cases q with
  | error e => exact hx pins σ H s e s' I hq
  | ok fl =>
    cases fl with
    | ret u => exact I.after hq
    | next => exact False.elim hq
    | brk => exact False.elim hq
    | cont => exact False.elim hq
theorem own_at (I : Inv X pins σ H s) {dx : Addr} {fs : List (Str × V)} (h : H a = some (.ins C dx fs)) : ∃ ox od, PySem.W.InstAt s.heap a ox C od := by
  obtain ⟨mA, J, _⟩ := ins_get I.hok h
  obtain ⟨od, J, _⟩ := J.look
  exact ⟨_, _, J⟩
/-- what of the text a class with its own == must have -/
structure OwnE (K : PySem.W.Frag) (C f : Addr) : Prop where
  eq : PySem.W.findIn K (.ref C) "__eq__" = some (some (.ref f))
  fn : PySem.W.isFn K (.ref f) = true
  ne : PySem.W.findIn K (.ref C) "__ne__" = some (some (.builtin "object.__ne__"))
  ob : PySem.W.mroIn K C (.type "object") = some true
def rEqO (K : PySem.W.Frag) (C : Addr) (sp : Sp) (E : XK) : R2 := fun x y H Q => ∃ a dx fs tb, x = .ref a ∧ H a = some (.ins C dx fs) ∧ TyX K H y tb ∧ PySem.W.notFirst K C tb = true ∧ sp [x, y] H Q E
def rNeO (K : PySem.W.Frag) (C : Addr) (sp : Sp) (E : XK) : R2 := fun x y H Q => ∃ a dx fs tb, x = .ref a ∧ H a = some (.ins C dx fs) ∧ TyX K H y tb ∧ PySem.W.notFirst K C tb = true ∧ sp [x, y] H (fun v H' => ∃ c, v = .bl c ∧ Q (.bl (!c)) H') E
theorem rc_own {A : Around} {sb : Sub X n A} (F : FnOk X.prog X.w X.K X.mg X.base CX n f fd ps sp) (hb : Binds X.K fd ps []) (hx : Passes CX X E) (O : OwnE X.K C f) (I : Inv X pins σ H s) {x y : V} {v u : Value} (rx : RelV x v) (ry : RelV y u) {Q : VK}
    (h : rEqO X.K C sp E x y H Q) : wpAny (model X.prog X.w) A (richCompare .Eq v u) (EP X pins σ Q) X.xe s := by
  obtain ⟨a, dx, fs, tb, rfl, ha, ty, nf, hq⟩ := h
  obtain rfl : v = Value.ref a := rx
  obtain ⟨ox, od, J⟩ := own_at I ha
  obtain ⟨Pk, kt, hp, _⟩ := kit_of I ry ty
  obtain ⟨m, hF⟩ := I.fr
  refine PySem.W.cmp_K (op := .Eq) sb.room.units0 hF I.ok.mod.kin J (kt.ty _ _ I.kIn hp) nf O.eq O.fn (wpAny_mono (own_call (vs := [.ref a, y]) F hb hx sb I (.cons (show Value.ref a = Value.ref a from rfl) (.cons ry .nil)) hq) (fun r s' z => ?_) fun _ _ e => e)
  obtain ⟨w, H', I', rw', hw⟩ := z
  cases r <;> first | exact ⟨w, H', I', rw', hw⟩ | (exfalso; cases w <;> first | exact nomatch rw' | (obtain ⟨_, e⟩ := rw'; exact nomatch e))
theorem op_eqO (F : FnOk X.prog X.w X.K X.mg X.base CX n f fd ps sp) (hr : Room n X.A) (hb : Binds X.K fd ps []) (hx : Passes CX X E) (O : OwnE X.K C f) : OpR X (compareOp .Eq) (rEqO X.K C sp E) := by
  intro pins s σ H x y v u Q I rx ry h
  exact rc_own (sb := ⟨hr, rfl⟩) F hb hx O I rx ry h
theorem op_neO (F : FnOk X.prog X.w X.K X.mg X.base CX n f fd ps sp) (hr : Room (n + 1) X.A) (hb : Binds X.K fd ps []) (hx : Passes CX X E) (O : OwnE X.K C f) : OpR X (compareOp .NotEq) (rNeO X.K C sp E) := by
  intro pins s σ H x y v u Q I rx ry h
  obtain ⟨a, dx, fs, tb, rfl, ha, ty, nf, hq⟩ := h
  obtain rfl : v = Value.ref a := rx
  obtain ⟨ox, od, J⟩ := own_at I ha
  obtain ⟨Pk, kt, hp, _⟩ := kit_of I ry ty
  show wpAny (model X.prog X.w) X.A (richCompare .NotEq (.ref a) u) (EP X pins σ Q) X.xe s
  have sb : Sub X n X.A.in1 := Sub.in1 (X := X) (A := X.A) ⟨hr, rfl⟩
  refine ne_own hr.units0 sb.room.units0 I.kIn J (kt.ty _ _ I.kIn hp) nf O.ne O.ob O.eq O.fn (wpAny_mono (own_call (vs := [.ref a, y]) F hb hx sb I (.cons (show Value.ref a = Value.ref a from rfl) (.cons ry .nil)) hq) (fun r s' z => ?_) fun _ _ e => e)
  obtain ⟨w, H', I', rw', c, rfl, hw⟩ := z
  cases rw'
  exact ⟨c, rfl, .bl _, H', I', rfl, hw⟩
/-- str(o), repr(o) -/
def rShow (C : Addr) (sp : Sp) (E : XK) : List V → Hp → VK → Prop := fun vs H Q => ∃ a dx fs, vs = [V.ref a] ∧ H a = some (.ins C dx fs) ∧ sp [.ref a] H (fun v H' => ∃ y, v = .str y ∧ Q v H') E
theorem cr_strO (F : FnOk X.prog X.w X.K X.mg X.base CX n f fd ps sp) (hr : Room (n + 2) X.A) (hb : Binds X.K fd ps []) (hx : Passes CX X E) (hs : PySem.W.findIn X.K (.ref C) "__str__" = some (some (.ref f))) (hf : PySem.W.isFn X.K (.ref f) = true) : CallR X (.type "str") (rShow C sp E) := by
  intro pins s σ H vs us Q I r h
  obtain ⟨a, dx, fs, rfl, ha, hq⟩ := h
  rw [Vals.ref1 r]
  obtain ⟨ox, od, J⟩ := own_at I ha
  have sb1 : Sub X (n + 1) X.A.in1 := Sub.in1 (X := X) (A := X.A) ⟨hr, rfl⟩
  have sb : Sub X n X.A.in1.in1 := sb1.in1
  refine PySem.W.kso_call sb.room.units0 I.kIn J hs hf (wpAny_mono (own_call (vs := [.ref a]) F hb hx sb I (.cons (show Value.ref a = Value.ref a from rfl) .nil) hq) (fun r s' z => ?_) fun _ _ e => e)
  obtain ⟨w, H', I', rw', y, rfl, hw⟩ := z
  obtain ⟨t, rfl⟩ := rw'
  exact ⟨.str y, H', I', ⟨t, rfl⟩, hw⟩
theorem cr_reprO (F : FnOk X.prog X.w X.K X.mg X.base CX n f fd ps sp) (hr : Room (n + 1) X.A) (hb : Binds X.K fd ps []) (hx : Passes CX X E) (hs : PySem.W.findIn X.K (.ref C) "__repr__" = some (some (.ref f))) (hf : PySem.W.isFn X.K (.ref f) = true) : CallR X (.builtin "repr") (rShow C sp E) := by
  intro pins s σ H vs us Q I r h
  obtain ⟨a, dx, fs, rfl, ha, hq⟩ := h
  rw [Vals.ref1 r]
  obtain ⟨ox, od, J⟩ := own_at I ha
  have sb : Sub X n X.A.in1 := Sub.in1 (X := X) (A := X.A) ⟨hr, rfl⟩
  refine repr_own sb.room.units0 I.kIn J hs hf (wpAny_mono (own_call (vs := [.ref a]) F hb hx sb I (.cons (show Value.ref a = Value.ref a from rfl) .nil) hq) (fun r s' z => ?_) fun _ _ e => e)
  obtain ⟨w, H', I', rw', y, rfl, hw⟩ := z
  obtain ⟨t, rfl⟩ := rw'
  exact ⟨y, t, rfl, .str y, H', I', ⟨t, rfl⟩, hw⟩
end
end Z
namespace Z
open PySem L2
theorem kit_self {K : PySem.W.Frag} {C : Addr} : PySem.W.kitOne K (.ref C) (.ref C) = some true := by
  unfold PySem.W.kitOne
  rw [if_pos (by simp)]
theorem kit_notown {K : PySem.W.Frag} {C : Addr} {n : String} {b : Bool} (ic : PySem.W.isClsIn K C = true) (tm : PySem.W.typeIn K (.ref C) = some (.type "type")) (e : PySem.W.subIn K (.type n) (.ref C) = some b) : PySem.W.kitOne K (.type n) (.ref C) = some b := by
  unfold PySem.W.kitOne
  rw [if_neg (fun z => nomatch (eq_of_beq z : Value.type n = Value.ref C))]
  unfold PySem.W.kitCls
  dsimp only
  rw [if_pos]
  · exact e
  · rw [Bool.and_eq_true]
    exact ⟨ic, by rw [tm]; decide⟩
/-! making one -/
theorem s_make {C : Addr} {sp : Sp} {dvs : List V} {E : XK} {t : TA} {σ : L2.St} {H : Hp} {Q : VK} (k : t σ H fun vs H1 => ∀ x dx, H1 x = none → H1 dx = none → dx ≠ x →
    sp (.ref x :: (vs ++ dvs)) (upd (upd H1 dx (.own x)) x (.ins C dx [])) (fun v H2 => v = .non ∧ Q (.ref x) H2) E) : tMake C sp dvs E t σ H Q := k
theorem s_makeK {C : Addr} {n m : Nat} {sp : Sp} {gV : List V → List V → List V} {E : XK} {t tk : TA} {σ : L2.St} {H : Hp} {Q : VK} (k : t σ H fun vs H1 => tk σ H1 fun zs H2 => vs.length = n ∧ zs.length = m ∧ ∀ x dx, H2 x = none → H2 dx = none → dx ≠ x →
  sp (gV (.ref x :: vs) zs) (upd (upd H2 dx (.own x)) x (.ins C dx [])) (fun v H3 => v = .non ∧ Q (.ref x) H3) E) : tMakeK C n m sp gV E t tk σ H Q := k
theorem s_sFld {K : PySem.W.Frag} {ta tv : TE} {f : Str} {D : Ends} {σ : L2.St} {H : Hp} (k : tv σ H fun y H1 => ta σ H1 fun x H2 => ∃ a C dx fs, x = .ref a ∧ H2 a = some (.ins C dx fs) ∧ Cls K C ∧ NoAttr K C f ∧ fs.length < 1000 ∧
  D.nx σ (upd H2 a (.ins C dx (putF f y fs)))) : sFld K ta tv f D σ H := k
end Z

set_option Elab.async false
set_option linter.all false
set_option maxRecDepth 100000
namespace Z
open PySem L2
/-! x in a list, by the items' own == -/
section
open PySem.SeqAt PySem.SeqRoads2 PySem.MeetsSeq AutoSeq1 PyProof.Rows
variable {P : Program} {w : World} {A : Around}
theorem has_loop {R : Result → Shared → Prop} {l : Addr} {x : Value} {N : Nat} {e : Nat → Bool} {I : Nat → Shared → Prop}
    (turn : ∀ i s, I i s → ∃ (its : Array Value) (n : Nat), s.heap.get? l = some { cls := .type "list", data := .seq its n } ∧ its.size = N ∧ ∀ h : i < its.size, wpAny (model P w) A.in1 (eqBool its[i] x) (fun r s' => r = e i ∧ I (i + 1) s') (fun v s' => R (.error v) s') s)
    (fin : ∀ i s b, I i s → (b = true ↔ ∃ j, j < N ∧ e j = true) → R (.ok (.ret (.bool b))) s) :
    ∀ k i : Nat, N - i = k → i ≤ N → (∀ j, j < i → e j = false) → ∀ s, I i s → wpAny (model P w) A.in1 (Builtin.«list.__contains__.loop» ⟨[.ref l, x, rawInt i], []⟩) (GQ.FinOf P w A R) (fun v s' => R (.error v) s') s
  | 0, i, hk, hi, hf, s, h => by
    obtain ⟨its, n, hl, hn, _⟩ := turn _ _ h
    obtain rfl : i = N := by omega
    have hR := fin _ s false h ⟨fun z => (Bool.false_ne_true z).elim, fun ⟨j, hj, z⟩ => by rw [hf j hj] at z; exact z⟩
    obtain ⟨hp, g, d, tk, os⟩ := s
    wp_walk using wpAny_loadPart' hl
    rw [show its[((i : Nat) : Int).toNat]? = none from by simp; omega]
    wp_walk
    exact hR
  | k + 1, i, hk, hi, hf, s, h => by
    obtain ⟨its, n, hl, hn, ht⟩ := turn _ _ h
    have lt : i < its.size := by omega
    have ht := ht lt
    obtain ⟨hp, g, d, tk, os⟩ := s
    wp_walk using wpAny_loadPart' hl
    rw [show its[((i : Nat) : Int).toNat]? = some its[i] from by simp [lt]]
    refine wpAny_bind (wpAny_mono ht (fun r s2 h2 => ?_) fun _ _ z => z)
    obtain ⟨rfl, h2⟩ := h2
    cases eb : e i with
    | true =>
      have hR := fin _ s2 true h2 ⟨fun _ => ⟨i, by omega, eb⟩, fun _ => rfl⟩
      obtain ⟨hp2, g2, d2, tk2, os2⟩ := s2
      wp_walk
      exact hR
    | false =>
      have next := has_loop turn fin k (i + 1) (by omega) (by omega) (fun j hj => by
        by_cases q : j = i
        · rw [q]; exact eb
        · exact hf j (by omega)) s2 h2
      obtain ⟨hp2, g2, d2, tk2, os2⟩ := s2
      wp_walk
      rw [show ((i : Int) + 1) = ((i + 1 : Nat) : Int) from by omega]
      exact ⟨plainId_quiet plain_contains_loop _, codeAny_builtin entry_contains_loop (by
        rw [Around.under_plainId plain_contains_loop _]
        exact next)⟩
theorem in_own {E : Value → Shared → Prop} {l : Addr} {x : Value} {N : Nat} {e : Nat → Bool} {I : Nat → Shared → Prop} {Q : Value → Shared → Prop}
    (turn : ∀ i s, I i s → ∃ (its : Array Value) (n : Nat), s.heap.get? l = some { cls := .type "list", data := .seq its n } ∧ its.size = N ∧ ∀ h : i < its.size, wpAny (model P w) A.in1 (eqBool its[i] x) (fun r s' => r = e i ∧ I (i + 1) s') E s)
    (fin : ∀ i s b, I i s → (b = true ↔ ∃ j, j < N ∧ e j = true) → Q (.bool b) s) {s : Shared} (h : I 0 s) : wpAny (model P w) A (compareOp .In x (.ref l)) Q E s := by
  obtain ⟨its, n, hl, hn, _⟩ := turn _ _ h
  show wpAny _ A (do return .bool (← contains (.ref l) x)) Q E s
  refine wpAny_bind (wpAny_contains_slot ⟨_, hl, rfl⟩ F.slot_list_contains (wpAny_mono (GQ.call_here F.slot_list_contains ⟨_, hl, rfl⟩ F.entry_list_contains (F.args_list_contains_2 _ _)
    (Q := fun v s' => ∃ b, v = .bool b ∧ Q (.bool b) s') (E := E) ?_) (fun v s' hv => ?_) fun _ _ z => z))
  · have first := has_loop (A := A) (R := wants (fun v s' => ∃ b, v = .bool b ∧ Q (.bool b) s') E) turn (fun i s' b hI hb => ⟨b, rfl, fin i s' b hI hb⟩) _ 0 rfl (Nat.zero_le _) (fun j hj => absurd hj (Nat.not_lt_zero j)) s h
    obtain ⟨hp, g, d, tk, os⟩ := s
    wp_walk using wpAny_loadPart' hl
    exact ⟨plainId_quiet plain_contains_loop _, codeAny_builtin entry_contains_loop (by
      rw [Around.under_plainId plain_contains_loop _]
      exact first)⟩
  · obtain ⟨b, rfl, hq⟩ := hv
    exact wpAny_truthy_bool (wpAny_pure hq)
end
/-- what the own == of two instances answers, whatever has been made since -/
def spEqB (Rl : Addr → Addr → Hp → Bool → Prop) : Sp := fun vs H Q _ => ∃ a b r, vs = [.ref a, .ref b] ∧ Rl a b H r ∧ ∀ H', Ex H H' → Q (.bl r) H'
def rInO (C : Addr) (Rl : Addr → Addr → Hp → Bool → Prop) : R2 := fun x y H Q => ∃ (a : Addr) (dx : Addr) (fs : List (Str × V)) (p : Addr) (bs : List Addr) (e : Nat → Bool), x = .ref a ∧ y = .ref p ∧ H a = some (.ins C dx fs) ∧ H p = some (.lst (bs.map V.ref)) ∧
  (∀ i b, bs[i]? = some b → (∃ dy gs, H b = some (.ins C dy gs)) ∧ (∀ H', Ex H H' → Rl b a H' (e i)) ∧ (b = a → e i = true)) ∧ ∀ H' r, Ex H H' → (r = true ↔ ∃ j, j < bs.length ∧ e j = true) → Q (.bl r) H'
section
variable {X : Cx} {n : Nat} {CX : CXT} {f C : Addr} {fd : FuncData} {ps : List Str} {sp : Sp} {E : XK} {Rl : Addr → Addr → Hp → Bool → Prop}
theorem op_inO (F : FnOk X.prog X.w X.K X.mg X.base CX n f fd ps sp) (hsp : ∀ a b H r, Rl a b H r → ∀ Q : VK, (∀ H', Ex H H' → Q (.bl r) H') → sp [.ref a, .ref b] H Q E) (hr : Room (n + 1) X.A) (hb : Binds X.K fd ps []) (hx : Passes CX X E) (O : OwnE X.K C f)
    (ty : ∀ {H : Hp} {a dx : Addr} {fs : List (Str × V)}, H a = some (.ins C dx fs) → TyX X.K H (.ref a) (.ref C)) (nf : PySem.W.notFirst X.K C (.ref C) = true) : OpR X (compareOp .In) (rInO C Rl) := by
  intro pins s σ H x y v u Q I rx ry h
  obtain ⟨a, dx, fs, p, bs, e, rfl, rfl, ha, hp, hbs, q⟩ := h
  obtain rfl : v = Value.ref a := rx
  obtain rfl : u = Value.ref p := ry
  have sb : Sub X n X.A.in1 := Sub.in1 (X := X) (A := X.A) ⟨hr, rfl⟩
  refine in_own (N := bs.length) (e := e) (I := fun i s' => ∃ H', Inv X pins σ H' s' ∧ Ex H H') (fun i s' h => ?_) (fun i s' b h hb => ?_) ⟨H, I, Ex.refl⟩
  · obtain ⟨H1, I1, e1⟩ := h
    obtain ⟨z, its, m, rv, hl⟩ := (show ObjOk X.prog X.w H1 s'.heap p (.lst (bs.map V.ref)) from I1.hok p _ (e1 _ _ hp))
    have len : its.toArray.size = bs.length := by rw [List.size_toArray, ← rv.length, List.length_map]
    refine ⟨its.toArray, m, hl, len, fun hi => ?_⟩
    have hi2 : i < bs.length := by omega
    obtain ⟨u, hu, ru⟩ := rv.get (show (bs.map V.ref)[i]? = some (.ref bs[i]) from by rw [List.getElem?_map, List.getElem?_eq_getElem hi2]; rfl)
    obtain rfl : u = Value.ref bs[i] := ru
    have en : its.toArray[i] = Value.ref bs[i] := by
      have : its[i]? = some its.toArray[i] := by
        have : i < its.length := by simpa using hi
        rw [List.getElem?_eq_getElem this] <;> simp
      rw [this] at hu
      exact Option.some.inj hu
    rw [en]
    obtain ⟨⟨dy, gs, hy⟩, hR, hself⟩ := hbs i bs[i] (List.getElem?_eq_getElem hi2)
    by_cases hab : bs[i] = a
    · rw [hab, hself hab]
      exact SeqAt.EqAt.same (A := X.A.in1) (s := s') (.ref a) X.prog X.w X.xe _ ⟨rfl, H1, I1, e1⟩
    · refine GQ.eqBool_refG hab ?_
      refine wpAny_mono (rc_own (sb := sb) (x := .ref bs[i]) (y := .ref a) (Q := fun v H' => v = .bl (e i) ∧ Ex H1 H') F hb hx O I1 rfl rfl ⟨bs[i], dy, gs, _, rfl, e1 _ _ hy, ty (e1 _ _ ha), nf, hsp _ _ _ _ (hR H1 e1) _ fun H' e' => ⟨rfl, e'⟩⟩) (fun r s2 z => ?_) fun _ _ z => z
      obtain ⟨v, H2, I2, rv2, rfl, e2⟩ := z
      exact ⟨e i, rv2, rfl, H2, I2, e1.trans e2⟩
  · obtain ⟨H1, I1, e1⟩ := h
    exact ⟨.bl b, H1, I1, rfl, q H1 b e1 hb⟩
end
end Z

set_option Elab.async false
set_option linter.all false
set_option maxRecDepth 100000
set_option maxHeartbeats 1000000
namespace Z
open PySem PySem.Builtin.SmallTypes
/-! zip(a, b, strict=True) of two lists of one length -/
section
variable {P : Program} {w : World} {A : Around} {E : Value → Shared → Prop} {s : Shared}
abbrev ZipS (h : Heap) (z pI pO : Addr) (own : Value) : Prop := h.get? z = some { cls := .type "zip", dict := none, data := .fields #[own, .bool false, .bool true, .ref pI, .ref pO], slots := #[] }
theorem drawS_item {j l : Addr} {i : Nat} {xs : Array Value} {x : Value} {Q : Option Value → Shared → Prop} (hj : s.heap.IsListIter j l i) (hl : s.heap.IsList l xs) (hx : xs[i]? = some x)
    (k : ∀ h', h'.IsListIter j l (i + 1) → Heap.SameBut j s.heap h' → Q (some x) { s with heap := h' }) : wpAny (model P w) A (nextOrEnd (.ref j)) Q E s := by
  unfold nextOrEnd
  exact wpAny_bind (wpAny_attempt (wpAny_nextOf_list_item hj hl hx fun h' a b => wpAny_pure (k h' a b)))
theorem drawS_end {j l : Addr} {i : Nat} {xs : Array Value} {Q : Option Value → Shared → Prop} (calm : A.handled = none) (hj : s.heap.IsListIter j l i) (hl : s.heap.IsList l xs) (hx : xs[i]? = none)
    (k : ∀ h', Heap.ExtBut j s.heap h' → Q none { s with heap := h' }) : wpAny (model P w) A (nextOrEnd (.ref j)) Q E s := by
  unfold nextOrEnd
  refine wpAny_bind (wpAny_attempt (wpAny_nextOf_list_end calm hj hl hx fun h' e a he => ?_))
  obtain ⟨o, ho, hc⟩ := he
  refine wpAny_bind (wpAny_isInstance (T := "StopIteration") (b := true) ⟨o, ho, hc⟩ isSubtype_stop ?_)
  rw [if_pos rfl]
  exact wpAny_pure (k h' a)
theorem zipS_item {z pI pO j1 j2 l1 l2 : Addr} {i : Nat} {xs ys : Array Value} {x y c d : Value} {Q : Value → Shared → Prop} (D : ZipApart z pI pO j1 j2 l1 l2)
    (hz : ZipS s.heap z pI pO .none) (hI : IsPair s.heap pI (.ref j1) (.ref j2)) (hO : IsPair s.heap pO c d)
    (g1 : s.heap.IsListIter j1 l1 i) (g2 : s.heap.IsListIter j2 l2 i) (m1 : s.heap.IsList l1 xs) (m2 : s.heap.IsList l2 ys) (hx : xs[i]? = some x) (hy : ys[i]? = some y)
    (k : ∀ h', ZipS h' z pI pO (rawInt s.heap.objs.size) → IsPair h' pO x y → h'.IsListIter j1 l1 (i + 1) → h'.IsListIter j2 l2 (i + 1) → IsPair h' s.heap.objs.size x y → h'.objs.size = s.heap.objs.size + 1 →
      (∀ a o, a ≠ z → a ≠ pO → a ≠ j1 → a ≠ j2 → s.heap.get? a = some o → h'.get? a = some o) → Q (.ref s.heap.objs.size) { s with heap := h' }) :
    wpAny (model P w) A (Builtin.«zip.__next__» ⟨[.ref z], []⟩) (fun fin s' => ∃ v, fin = .done (.ret v) ∧ Q v s') E s := by
  show wpAny _ _ (field (.ref z) 2 >>= fun f => _) _ _ _
  refine wpAny_bind (wpAny_field hz rfl (x := .bool true) rfl ?_)
  show wpAny _ _ (field (.ref z) 3 >>= fun f => _) _ _ _
  refine wpAny_bind (wpAny_field hz rfl (x := .ref pI) rfl (wpAny_bind (wpAny_seqItems hI rfl ?_)))
  show wpAny _ _ (ownedTupleIsFree (.ref z) >>= fun f => _) _ _ _
  unfold ownedTupleIsFree
  refine wpAny_bind (wpAny_bind (wpAny_field hz rfl (x := .none) rfl (wpAny_pure ?_)))
  simp only [if_true]
  refine wpAny_bind (wpAny_rule (wpAny_bind (wpAny_field hz rfl (x := .ref pO) rfl ?_)))
  refine wpAny_bind (wpAny_setField_rec hz (by simp) fun H1 z1 b1 => ?_)
  replace z1 : ZipS H1 z pI pO .ellipsis := z1
  refine wpAny_bind ?_
  simp only [List.zipIdx_cons, List.zipIdx_nil, List.forIn_cons, List.forIn_nil]
  refine wpAny_bind (wpAny_bind (wpAny_onRaise ?_))
  show wpAny _ _ (nextOrEnd (.ref j1)) _ _ _
  refine drawS_item (g1.extBut b1.extBut D.i1z) (m1.extBut b1.extBut D.l1z) hx fun H2 n1 b2 => ?_
  have o2 : IsPair H2 pO c d := b2.extBut _ _ D.TOi1 (b1.extBut _ _ D.TOz hO)
  refine wpAny_bind (wpAny_seqItems o2 rfl (wpAny_bind (wpAny_updateSeq_pair o2 fun H3 o3 b3 => ?_)))
  replace o3 : IsPair H3 pO x d := o3
  refine wpAny_bind (wpAny_letGo (wpAny_pure ?_))
  refine wpAny_bind (wpAny_bind (wpAny_onRaise ?_))
  show wpAny _ _ (nextOrEnd (.ref j2)) _ _ _
  refine drawS_item (((g2.extBut b1.extBut D.i2z).extBut b2.extBut D.i12.symm).extBut b3.extBut D.TOi2.symm) (((m2.extBut b1.extBut D.l2z).extBut b2.extBut D.l2i1).extBut b3.extBut D.l2TO) hy fun H4 n2 b4 => ?_
  have o4 : IsPair H4 pO x d := b4.extBut _ _ D.TOi2 o3
  refine wpAny_bind (wpAny_seqItems o4 rfl (wpAny_bind (wpAny_updateSeq_pair o4 fun H5 o5 b5 => ?_)))
  replace o5 : IsPair H5 pO x y := o5
  refine wpAny_bind (wpAny_letGo (wpAny_pure (wpAny_pure ?_)))
  refine wpAny_bind (wpAny_seqItems o5 rfl (wpAny_bind (wpAny_newTuple ?_)))
  have sz5 : H5.objs.size = s.heap.objs.size := by rw [b5.1, b4.1, b3.1, b2.1, b1.1]
  have z5 : ZipS H5 z pI pO .ellipsis := b5.extBut _ _ D.TOz.symm (b4.extBut _ _ D.i2z.symm (b3.extBut _ _ D.TOz.symm (b2.extBut _ _ D.i1z.symm z1)))
  have kp : ∀ a o, a ≠ z → a ≠ pO → a ≠ j1 → a ≠ j2 → s.heap.get? a = some o → H5.get? a = some o := fun a o q1 q2 q3 q4 e => b5.extBut _ _ q2 (b4.extBut _ _ q4 (b3.extBut _ _ q2 (b2.extBut _ _ q3 (b1.extBut _ _ q1 e))))
  have n1' : H5.IsListIter j1 l1 (i + 1) := ((n1.extBut b3.extBut D.TOi1.symm).extBut b4.extBut D.i12).extBut b5.extBut D.TOi1.symm
  have n2' : H5.IsListIter j2 l2 (i + 1) := n2.extBut b5.extBut D.TOi2.symm
  have zl : z < H5.objs.size := Heap.lt_size z5
  show wpAny _ _ (ownedTupleHandOut (.ref z) (.ref H5.objs.size) >>= fun f => _) _ _ _
  unfold ownedTupleHandOut
  have z6 : ZipS (H5.push { cls := .type "tuple", data := .seq #[x, y] }) z pI pO .ellipsis := Heap.get?_push_of_some _ z5
  refine wpAny_bind (wpAny_bind (wpAny_setField_rec z6 (by simp) fun H7 z7 b7 => ?_))
  replace z7 : ZipS H7 z pI pO (rawInt H5.objs.size) := z7
  refine wpAny_setField_rec z7 (by simp) fun H8 z8 b8 => ?_
  replace z8 : ZipS H8 z pI pO (rawInt H5.objs.size) := z8
  have up : ∀ a o, a ≠ z → H5.get? a = some o → H8.get? a = some o := fun a o q e => b8.extBut _ _ q (b7.extBut _ _ q (Heap.get?_push_of_some _ e))
  have t8 : IsPair H8 H5.objs.size x y := b8.extBut _ _ (Nat.ne_of_gt zl) (b7.extBut _ _ (Nat.ne_of_gt zl) (Heap.get?_push_size _ rfl))
  have sz8 : H8.objs.size = H5.objs.size + 1 := by rw [b8.1, b7.1, Heap.size_push]
  rw [sz5] at z8 t8 sz8
  refine wpAny_pure ⟨_, rfl, ?_⟩
  show Q (.ref H5.objs.size) _
  rw [sz5]
  exact k H8 z8 (up _ _ D.TOz o5) (n1'.at fun o e => up _ o D.i1z e) (n2'.at fun o e => up _ o D.i2z e) t8 sz8 fun a o q1 q2 q3 q4 e => up a o q1 (kp a o q1 q2 q3 q4 e)
theorem stop_all {Q : α → Shared → Prop} (calm : A.handled = none) (k : ∀ h' e, (∀ a o, s.heap.get? a = some o → h'.get? a = some o) → (∃ o, h'.get? e = some o ∧ o.cls = .type "StopIteration") → E (.ref e) { s with heap := h' }) :
    wpAny (model P w) A (stopIteration : Sem α) Q E s := by
  unfold stopIteration
  refine wpAny_bind ?_
  simp only [newExc, newTuple]
  refine wpAny_bind (wpAny_newObj_type ?_ (by size_fits))
  refine wpAny_bind (m := firstArgMember _ _) (wpAny_of_eq (a := Value.none) (by first | rfl | (simp only [firstArgMember]; rfl)) ?_)
  refine wpAny_newObj_type ?_ (by size_fits)
  simp only [raiseNew]
  refine wpAny_bind (wpAny_handled ?_)
  rw [calm]
  exact wpAny_bind (wpAny_pure (wpAny_throw (k _ _ (fun a o e => Heap.get?_push_of_some _ (Heap.get?_push_of_some _ e)) ⟨_, Heap.get?_push_size _ rfl, rfl⟩)))
theorem strict_go {m : Sem PySem.Fin} {b : Value} {Q : PySem.Fin → Shared → Prop} (hm : ∃ (bad : Value × Nat → Option Value → Sem (ForInStep PUnit)) (r : String), m = (forIn [(b, 1)] PUnit.unit (fun p _ => nextOrEnd p.1 >>= fun x => if x.isSome = true then bad p x else pure (ForInStep.yield PUnit.unit)) >>= fun _ => rule r >>= fun _ => stopIteration))
    (h : wpAny (model P w) A (nextOrEnd b) (fun x s' => x = none ∧ wpAny (model P w) A (stopIteration : Sem PySem.Fin) Q E s') E s) : wpAny (model P w) A m Q E s := by
  obtain ⟨bad, r, rfl⟩ := hm
  simp only [List.forIn_cons, List.forIn_nil]
  refine wpAny_bind (wpAny_bind (wpAny_bind (wpAny_mono h (fun x s' hx => ?_) fun _ _ z => z)))
  obtain ⟨rfl, hx⟩ := hx
  exact wpAny_pure (wpAny_pure (wpAny_bind (wpAny_rule hx)))
theorem zipS_end {z pI pO j1 j2 l1 l2 : Addr} {i : Nat} {xs ys : Array Value} {c d : Value} {Q : Fin → Shared → Prop} (calm : A.handled = none) (D : ZipApart z pI pO j1 j2 l1 l2)
    (hz : ZipS s.heap z pI pO .none) (hI : IsPair s.heap pI (.ref j1) (.ref j2)) (hO : IsPair s.heap pO c d)
    (g1 : s.heap.IsListIter j1 l1 i) (g2 : s.heap.IsListIter j2 l2 i) (m1 : s.heap.IsList l1 xs) (m2 : s.heap.IsList l2 ys) (hx : xs[i]? = none) (hy : ys[i]? = none)
    (k : ∀ h' e, (∀ a o, a ≠ z → a ≠ j1 → a ≠ j2 → s.heap.get? a = some o → h'.get? a = some o) → (∃ o, h'.get? e = some o ∧ o.cls = .type "StopIteration") → E (.ref e) { s with heap := h' }) :
    wpAny (model P w) A (Builtin.«zip.__next__» ⟨[.ref z], []⟩) Q E s := by
  show wpAny _ _ (field (.ref z) 2 >>= fun f => _) _ _ _
  refine wpAny_bind (wpAny_field hz rfl (x := .bool true) rfl ?_)
  show wpAny _ _ (field (.ref z) 3 >>= fun f => _) _ _ _
  refine wpAny_bind (wpAny_field hz rfl (x := .ref pI) rfl (wpAny_bind (wpAny_seqItems hI rfl ?_)))
  show wpAny _ _ (ownedTupleIsFree (.ref z) >>= fun f => _) _ _ _
  unfold ownedTupleIsFree
  refine wpAny_bind (wpAny_bind (wpAny_field hz rfl (x := .none) rfl (wpAny_pure ?_)))
  simp only [if_true]
  refine wpAny_bind (wpAny_rule (wpAny_bind (wpAny_field hz rfl (x := .ref pO) rfl ?_)))
  refine wpAny_bind (wpAny_setField_rec hz (by simp) fun H1 z1 b1 => ?_)
  replace z1 : ZipS H1 z pI pO .ellipsis := z1
  refine wpAny_bind ?_
  simp only [List.zipIdx_cons, List.zipIdx_nil, List.forIn_cons, List.forIn_nil]
  refine wpAny_bind (wpAny_bind (wpAny_onRaise ?_))
  show wpAny _ _ (nextOrEnd (.ref j1)) _ _ _
  refine drawS_end calm (g1.extBut b1.extBut D.i1z) (m1.extBut b1.extBut D.l1z) hx fun H2 b2 => ?_
  have z2 : ZipS H2 z pI pO .ellipsis := b2 _ _ D.i1z.symm z1
  refine wpAny_bind (wpAny_setField_rec z2 (by simp) fun H3 z3 b3 => ?_)
  refine wpAny_bind ?_
  refine strict_go (b := .ref j2) ⟨_, _, rfl⟩ ?_
  refine drawS_end calm (((g2.extBut b1.extBut D.i2z).extBut b2 D.i12.symm).extBut b3.extBut D.i2z) (((m2.extBut b1.extBut D.l2z).extBut b2 D.l2i1).extBut b3.extBut D.l2z) hy fun H4 b4 => ⟨rfl, ?_⟩
  exact stop_all calm fun h' e kp he => k h' e (fun a o q1 q2 q3 x => kp a o (b4 _ _ q3 (b3.extBut _ _ q1 (b2 _ _ q2 (b1.extBut _ _ q1 x))))) he
theorem nextS_item {z pI pO j1 j2 l1 l2 : Addr} {i : Nat} {xs ys : Array Value} {x y c d : Value} {Q : Option Value → Shared → Prop} (D : ZipApart z pI pO j1 j2 l1 l2)
    (hz : ZipS s.heap z pI pO .none) (hI : IsPair s.heap pI (.ref j1) (.ref j2)) (hO : IsPair s.heap pO c d)
    (g1 : s.heap.IsListIter j1 l1 i) (g2 : s.heap.IsListIter j2 l2 i) (m1 : s.heap.IsList l1 xs) (m2 : s.heap.IsList l2 ys) (hx : xs[i]? = some x) (hy : ys[i]? = some y)
    (k : ∀ h', ZipS h' z pI pO (rawInt s.heap.objs.size) → IsPair h' pO x y → h'.IsListIter j1 l1 (i + 1) → h'.IsListIter j2 l2 (i + 1) → IsPair h' s.heap.objs.size x y → h'.objs.size = s.heap.objs.size + 1 →
      (∀ a o, a ≠ z → a ≠ pO → a ≠ j1 → a ≠ j2 → s.heap.get? a = some o → h'.get? a = some o) → Q (some (.ref s.heap.objs.size)) { s with heap := h' }) :
    wpAny (model P w) A (pyNext (.ref z)) Q E s := by
  have tz : s.TypeIs (.ref z) "zip" := ⟨_, hz, rfl⟩
  unfold pyNext
  refine wpAny_bind (wpAny_attempt (wpAny_callSpecial?_slot (name := Str.ofString "__next__") tz F.slot_zip_next (wpAny_call_entry F.slot_zip_next tz F.entry_zip_next ?_ (F.args_zip_next_1 _))))
  exact zipS_item D hz hI hO g1 g2 m1 m2 hx hy fun h' a1 a2 a3 a4 a5 a6 a7 => wpAny_pure (k h' a1 a2 a3 a4 a5 a6 a7)
theorem nextS_end {z pI pO j1 j2 l1 l2 : Addr} {i : Nat} {xs ys : Array Value} {c d : Value} {Q : Option Value → Shared → Prop} (calm : A.handled = none) (D : ZipApart z pI pO j1 j2 l1 l2)
    (hz : ZipS s.heap z pI pO .none) (hI : IsPair s.heap pI (.ref j1) (.ref j2)) (hO : IsPair s.heap pO c d)
    (g1 : s.heap.IsListIter j1 l1 i) (g2 : s.heap.IsListIter j2 l2 i) (m1 : s.heap.IsList l1 xs) (m2 : s.heap.IsList l2 ys) (hx : xs[i]? = none) (hy : ys[i]? = none)
    (k : ∀ h', (∀ a o, a ≠ z → a ≠ j1 → a ≠ j2 → s.heap.get? a = some o → h'.get? a = some o) → Q none { s with heap := h' }) : wpAny (model P w) A (pyNext (.ref z)) Q E s := by
  have tz : s.TypeIs (.ref z) "zip" := ⟨_, hz, rfl⟩
  unfold pyNext
  refine wpAny_bind (wpAny_attempt (wpAny_callSpecial?_slot (name := Str.ofString "__next__") tz F.slot_zip_next (wpAny_call_entry F.slot_zip_next tz F.entry_zip_next ?_ (F.args_zip_next_1 _))))
  refine zipS_end calm D hz hI hO g1 g2 m1 m2 hx hy fun h' e kp he => ?_
  obtain ⟨o, ho, hc⟩ := he
  exact wpAny_bind (wpAny_isInstance (T := "StopIteration") (b := true) ⟨o, ho, hc⟩ isSubtype_stop (wpAny_pure (k _ kp)))
theorem iterS {z pI pO : Addr} {own : Value} {Q : Value → Shared → Prop} (hz : ZipS s.heap z pI pO own) (k : Q (.ref z) s) : wpAny (model P w) A (pyIter (.ref z)) Q E s := by
  have tz : s.TypeIs (.ref z) "zip" := ⟨_, hz, rfl⟩
  refine wpAny_pyIter_slot tz F.slot_zip_iter (wpAny_call_entry F.slot_zip_iter tz F.entry_zip_iter ?_ (F.args_zip_iter_1 _))
  exact (show wpAny _ _ (ret (.ref z)) _ _ s from wpAny_pure ⟨_, rfl, "zip", _, tz, F.slot_zip_next.lookup, k⟩)
theorem letS_if {α : Type} {c : Bool} {a b : Sem α} {Q : α → Shared → Prop} (hc : c = true) (h : wpAny (model P w) A a Q E s) : wpAny (model P w) A (if c = true then a else b) Q E s := by
  rw [if_pos hc]
  exact h
theorem letS {es : List Expr} {n : Nat} {pos : Pos} {z pI pO t : Addr} {Q : Unit → Shared → Prop} (hz : ZipS s.heap z pI pO (rawInt t)) (k : ∀ h', ZipS h' z pI pO .none → Heap.SameBut z s.heap h' → Q () { s with heap := h' }) :
    wpAny (model P w) A (letOwnedTupleGo (.Tuple es n pos) (.ref z) (.ref t)) Q E s := by
  unfold letOwnedTupleGo
  refine wpAny_bind (wpAny_load hz (letS_if (by simp) ?_))
  exact wpAny_bind (wpAny_rule (wpAny_setField_rec hz (by simp) fun h' z' b => k h' z' b))
/-! it is made -/
theorem tcS (a b v : Value) : checkTypeCall "zip" ⟨[a, b], [(Str.ofString "strict", v)]⟩ = pure () := by kernel_rfl
theorem ncS (a b v : Value) : checkBuiltinCall "zip.__new__" ⟨[.type "zip", a, b], [(Str.ofString "strict", v)]⟩ = pure () := by kernel_rfl
theorem oiS (o a b v : Value) : argsOk "object.__init__" ⟨[o, a, b], [(Str.ofString "strict", v)]⟩ := by
  unfold argsOk
  kernel_rfl
theorem newS (l1 l2 : Addr) (xs ys : Array Value) :
    Meets (Builtin.«zip.__new__» ⟨[.type "zip", .ref l1, .ref l2], [(Str.ofString "strict", .bool true)]⟩) (fun _ R s => s.heap.IsList l1 xs ∧ s.heap.IsList l2 ys ∧
      R (.ok (.ret (.ref (zipH4 s.heap l1 l2).objs.size))) { s with heap := (zipH4 s.heap l1 l2).push { cls := .type "zip", data := .fields #[.none, .bool false, .bool true, .ref (zipH2 s.heap l1 l2).objs.size, .ref (zipH3 s.heap l1 l2).objs.size] } }) :=
  .of_wp fun prog w A R s h => by
    obtain ⟨hp, g, d, tk, os⟩ := s
    obtain ⟨m1, m2, h⟩ := h
    have sz := sub_zip
    have M1 : Heap.IsList (Shared.heap ⟨hp, g, d, tk, os⟩) l1 xs := m1
    have M2 : Heap.IsList (Shared.heap ⟨hp.push { cls := .type "list_iterator", data := .fields #[.ref l1, .int 0 0] }, g, d, tk, os⟩) l2 ys := Heap.IsList.push m2 _
    wp_walk using wpAny_pyIter_list M1, wpAny_pyIter_list M2, wpAny_truthy_bool
    exact ⟨_, rfl, h⟩
theorem callS {l1 l2 : Addr} {xs ys : Array Value} {Q : Value → Shared → Prop} (m1 : s.heap.IsList l1 xs) (m2 : s.heap.IsList l2 ys)
    (k : ∀ h', ZipS h' (s.heap.objs.size + 4) (s.heap.objs.size + 2) (s.heap.objs.size + 3) .none → IsPair h' (s.heap.objs.size + 2) (.ref s.heap.objs.size) (.ref (s.heap.objs.size + 1)) → IsPair h' (s.heap.objs.size + 3) .none .none →
      h'.IsListIter s.heap.objs.size l1 0 → h'.IsListIter (s.heap.objs.size + 1) l2 0 → (∀ a o, s.heap.get? a = some o → h'.get? a = some o) → Q (.ref (s.heap.objs.size + 4)) { s with heap := h' }) :
    wpAny (model P w) A (call (.type "zip") [.ref l1, .ref l2] [(Str.ofString "strict", .bool true)]) Q E s := by
  refine callType_newKw F.called_zip (by decide) (tcS _ _ _) (ncS _ _ _) (fun o => oiS o _ _ _) F.entry_zip_new (newS l1 l2 xs ys) ⟨m1, m2, ?_⟩
  generalize eO : ({ cls := .type "zip", data := .fields #[.none, .bool false, .bool true, .ref (zipH2 s.heap l1 l2).objs.size, .ref (zipH3 s.heap l1 l2).objs.size] } : Obj) = O
  have q1 : (zipH1 s.heap l1).objs.size = s.heap.objs.size + 1 := Heap.size_push ..
  have q2 : (zipH2 s.heap l1 l2).objs.size = s.heap.objs.size + 2 := by rw [Heap.size_push, q1]
  have q3 : (zipH3 s.heap l1 l2).objs.size = s.heap.objs.size + 3 := by rw [Heap.size_push, q2]
  have q4 : (zipH4 s.heap l1 l2).objs.size = s.heap.objs.size + 4 := by rw [Heap.size_push, q3]
  have p5 : ((zipH4 s.heap l1 l2).push O).get? (zipH4 s.heap l1 l2).objs.size = some O := Heap.get?_push_size _ (by rw [← eO]; rfl)
  have p4 : ((zipH4 s.heap l1 l2).push O).get? (zipH3 s.heap l1 l2).objs.size = some _ := Heap.get?_push_of_some _ (Heap.get?_push_size _ rfl)
  have p3 : ((zipH4 s.heap l1 l2).push O).get? (zipH2 s.heap l1 l2).objs.size = some _ := Heap.get?_push_of_some _ (Heap.get?_push_of_some _ (Heap.get?_push_size _ rfl))
  have p2 : ((zipH4 s.heap l1 l2).push O).get? (zipH1 s.heap l1).objs.size = some _ := Heap.get?_push_of_some _ (Heap.get?_push_of_some _ (Heap.get?_push_of_some _ (Heap.get?_push_size _ rfl)))
  have p1 : ((zipH4 s.heap l1 l2).push O).get? s.heap.objs.size = some _ := Heap.get?_push_of_some _ (Heap.get?_push_of_some _ (Heap.get?_push_of_some _ (Heap.get?_push_of_some _ (Heap.get?_push_size _ rfl))))
  rw [q2, q3] at eO
  rw [← eO] at p5 p4 p3 p2 p1 ⊢
  show _ ∧ _
  rw [q4] at p5
  rw [q1, q2] at p3
  rw [q3] at p4
  rw [q1] at p2
  rw [q4]
  exact ⟨⟨_, p5, rfl⟩, k _ p5 p3 p4 ⟨_, p1, rfl, rfl⟩ ⟨_, p2, rfl, rfl⟩ fun a o x => Heap.get?_push_of_some _ (Heap.get?_push_of_some _ (Heap.get?_push_of_some _ (Heap.get?_push_of_some _ (Heap.get?_push_of_some _ x))))⟩
end
end Z
namespace Z
open PySem L2 PyProof.Rows
/-- both lists as they stand at each turn; they end together -/
def ItzS (K : PySem.W.Frag) (a b : Addr) : It :=
  ⟨(Itz K a b).go, (Itz K a b).yld, fun i H => ∃ xs ys : List V, SqL K H a xs ∧ SqL K H b ys ∧ xs.length ≤ i ∧ ys.length ≤ i⟩
theorem walk_zipS {K : PySem.W.Frag} {a b : Addr} {xs ys : List V} (hn : ys.length = xs.length) : Walk (ItzS K a b) xs.length (fun H => SqL K H a xs ∧ SqL K H b ys) (YPair (fun i => xs[i]?) (fun i => ys[i]?)) := by
  have W := walk_zip (K := K) (a := a) (b := b) (xs := xs) (ys := ys) (n := xs.length) (by omega)
  exact ⟨W.goes, fun H q => ⟨xs, ys, q.1, q.2, Nat.le_refl _, by omega⟩, W.yields⟩
theorem turn_zipS {P : Program} {w : World} {K : PySem.W.Frag} {es : List Expr} {n : Nat} {pos : Pos} {a b z pI pO j1 j2 : Addr} (D : ZipApart z pI pO j1 j2 a b) :
    Turn P w K (.Tuple es n pos) (ItzS K a b) [z, pI, pO, j1, j2] z (fun i h => ZipS h z pI pO .none ∧ IsPair h pI (.ref j1) (.ref j2) ∧ (∃ x y, IsPair h pO x y) ∧ h.IsListIter j1 a i ∧ h.IsListIter j2 b i) where
  mem := List.mem_cons_self
  obj := fun i h ⟨hz, hI, ⟨x, y, hO⟩, ⟨o1, u1, _, v1⟩, ⟨o2, u2, _, v2⟩⟩ c hc => by
    have hc : c = z ∨ c = pI ∨ c = pO ∨ c = j1 ∨ c = j2 := by simpa using hc
    rcases hc with rfl | rfl | rfl | rfl | rfl
    · exact ⟨_, hz, fun v q => nomatch q⟩
    · exact ⟨_, hI, fun v q => nomatch q⟩
    · exact ⟨_, hO, fun v q => nomatch q⟩
    · exact ⟨o1, u1, fun v q => by rw [v1] at q; cases q⟩
    · exact ⟨o2, u2, fun v q => by rw [v2] at q; cases q⟩
  keep := fun i h h' ⟨hz, hI, ⟨x, y, hO⟩, g1, g2⟩ k =>
    ⟨k z (by simp) _ hz, k pI (by simp) _ hI, ⟨x, y, k pO (by simp) _ hO⟩, g1.at (k j1 (by simp)), g2.at (k j2 (by simp))⟩
  item := by
    intro X eP ew eK _ i pins s σ H E I free st go
    subst eP ew eK
    obtain ⟨hz, hI, ⟨x0, y0, hO⟩, g1, g2⟩ := st
    obtain ⟨xs, ys, x, y, qa, qb, hx, hy⟩ := go
    obtain ⟨us, ru, p1, _⟩ := I.list qa
    obtain ⟨vs, rv, p2, _⟩ := I.list qb
    obtain ⟨u, hu, ux⟩ := ru.get hx
    obtain ⟨v, hv, vy⟩ := rv.get hy
    have zl : z < s.heap.objs.size := Heap.lt_size hz
    refine nextS_item D hz hI hO g1 g2 p1.isList p2.isList (x := u) (y := v) (by simpa using hu) (by simpa using hv) fun h1 z1 o1 n1 n2 t1 _ kp => ?_
    refine ⟨_, rfl, letS (s := { s with heap := h1 }) z1 fun h2 z2 sb => ?_⟩
    have t2 : h2.get? s.heap.objs.size = some { cls := .type "tuple", data := .seq #[u, v] } := (sb.2 _ (Nat.ne_of_gt zl)).trans t1
    have okN : ObjOk X.prog X.w (upd H s.heap.objs.size (.tup [x, y])) h2 s.heap.objs.size (.tup [x, y]) := ⟨sz (by simp), [u, v], .cons ux (.cons vy .nil), ⟨_, t2, rfl, _, rfl⟩⟩
    have I1 : Inv X pins σ (upd H s.heap.objs.size (.tup [x, y])) { s with heap := h2 } := I.turnedNew (t' := s.toks) (ch := [z, pI, pO, j1, j2]) (fun c o hb q => by
      have hb : c ≠ z ∧ c ≠ pI ∧ c ≠ pO ∧ c ≠ j1 ∧ c ≠ j2 := by simpa using hb
      exact (sb.2 c hb.1).trans (kp c o hb.1 hb.2.2.1 hb.2.2.2.1 hb.2.2.2.2 q)) free (Nat.le_refl _) okN
    refine ⟨.ref s.heap.objs.size, _, I1, rfl, ⟨_, x, y, rfl, I.hok.fresh (Nat.le_refl _), rfl, fun l hl => by rw [I.list_inj hl qa]; exact hx, fun l hl => by rw [I.list_inj hl qb]; exact hy⟩,
      ⟨z2, (sb.2 _ D.TIz).trans (kp _ _ D.TIz D.TITO D.TIi1 D.TIi2 hI), ⟨u, v, (sb.2 _ D.TOz).trans o1⟩, n1.at fun o q => (sb.2 _ D.i1z).trans q, n2.at fun o q => (sb.2 _ D.i2z).trans q⟩, fun c hc => ?_⟩
    have lt : c < s.heap.objs.size := by
      have hc : c = z ∨ c = pI ∨ c = pO ∨ c = j1 ∨ c = j2 := by simpa using hc
      rcases hc with rfl | rfl | rfl | rfl | rfl
      · exact zl
      · exact Heap.lt_size hI
      · exact Heap.lt_size hO
      · exact let ⟨_, e, _⟩ := g1; Heap.lt_size e
      · exact let ⟨_, e, _⟩ := g2; Heap.lt_size e
    rw [upd_ne (Nat.ne_of_lt lt)]
    exact (free c hc).1
  done := by
    intro X eP ew eK calm i pins s σ H E I free st stop
    subst eP ew eK
    obtain ⟨hz, hI, ⟨x0, y0, hO⟩, g1, g2⟩ := st
    obtain ⟨xs, ys, qa, qb, l1, l2⟩ := stop
    obtain ⟨us, ru, p1, _⟩ := I.list qa
    obtain ⟨vs, rv, p2, _⟩ := I.list qb
    have n1 := ru.length
    have n2 := rv.length
    refine nextS_end (I.ok.hd calm) D hz hI hO g1 g2 p1.isList p2.isList (by simp; omega) (by simp; omega) fun h1 kp => ⟨rfl, I.turnedL (t' := s.toks) (ch := [z, pI, pO, j1, j2]) (fun c o hb q => ?_) free⟩
    have hb : c ≠ z ∧ c ≠ pI ∧ c ≠ pO ∧ c ≠ j1 ∧ c ≠ j2 := by simpa using hb
    exact kp c o hb.1 hb.2.2.2.1 hb.2.2.2.2 q
  self := fun A i s Q E st k => iterS st.1 k
def iZipS (K : PySem.W.Frag) (ta tk : TA) : TI := fun σ H R => ta σ H fun vs H1 => tk σ H1 fun zs H2 => ∃ a b xs ys, vs = [.ref a, .ref b] ∧ zs = [.bl true] ∧ SqL K H2 a xs ∧ SqL K H2 b ys ∧ R (ItzS K a b) H2
theorem callTyS {M : Model} {A : Around} {E : Value → Shared → Prop} {s : Shared} {env : Env} {pos : Pos} {T : String} {e : Expr} {es : List Expr} {kws : List Keyword} {Q : Value → Shared → Prop}
    (h : wpAny M A (spliced (backTo pos (starEach (e :: es) env))) (fun vs s1 => wpAny M A (evalAll ((backToKw pos (keywordEach kws env)).map (·.2))) (fun zs s2 => wpAny M A (call (.type T) vs (((backToKw pos (keywordEach kws env)).filterMap (·.1)).zip zs)) Q E s2) E s1) E s)
    (he : backTo pos (starEach (e :: es) env) = (false, eval e env) :: backTo pos (starEach es env) := by rfl) (hp : (backTo pos (starEach (e :: es) env)).any (·.1) = false := by rfl)
    (ha : (backToKw pos (keywordEach kws env)).all (·.1.isSome) = true := by rfl) (hk : (backToKw pos (keywordEach kws env)).any (·.1.isNone) = false := by rfl) :
    wpAny M A (callWith pos (.type T) [] (backTo pos (starEach (e :: es) env)) (backToKw pos (keywordEach kws env))) Q E s := by
  unfold callWith
  have z : wpAny M A (evalArgs (.type T) true (backTo pos (starEach (e :: es) env)) (backToKw pos (keywordEach kws env))) (fun r s1 => wpAny M A (call (.type T) ([] ++ r.pos) r.kw) Q E s1) E s := by
    rw [he] at h ⊢
    exact evalArgs_kwB ha h
  refine wpAny_bind (wpAny_holding (wpAny_mono z (fun r s1 h1 => wpAny_bind (wpAny_standAt ?_)) fun _ _ x => x))
  simp only [hp, hk, Bool.or_false]
  exact wpAny_bind (wpAny_pure (wpAny_bind (wpAny_mono h1 (fun v s2 h2 => wpAny_bind (wpAny_holding (wpAny_point (wpAny_pure h2)))) fun _ _ x => x)))
theorem pi_zipS {X : Cx} {e e2 : Expr} {kws : List Keyword} {ta tk : TA} {p pos tpos : Pos} {es : List Expr} {n : Nat} (hg : Gl X "zip") (hm : X.mg "zip" = none) (ha : PA X [e, e2] ta) (hk : PK X kws tk)
    (he : backTo pos (starEach [e, e2] X.env) = (false, eval e X.env) :: backTo pos (starEach [e2] X.env) := by rfl) (hp : (backTo pos (starEach [e, e2] X.env)).any (·.1) = false := by rfl)
    (hall : (backToKw pos (keywordEach kws X.env)).all (·.1.isSome) = true := by rfl) (hnone : (backToKw pos (keywordEach kws X.env)).any (·.1.isNone) = false := by rfl) (hks : (backToKw pos (keywordEach kws X.env)).filterMap (·.1) = [Str.ofString "strict"] := by rfl) :
    PI X (.Tuple es n tpos) (.Call (.Name "zip" p) [e, e2] kws pos) (iZipS X.K ta tk) := by
  refine ⟨fun pins s σ H R I h => ?_⟩
  refine wpAny_Call_Name_kw (ld_blt I hg hm PyProof.Rows.boot_zip ?_)
  refine callTyS (thn (ha.run pos pins s σ H _ I h) fun us s1 ⟨vs, H1, I1, r1, q1⟩ => thn (hk.run pos pins s1 σ H1 _ I1 q1) fun ws s2 ⟨zs, H2, I2, r2, a, b, xs, ys, e1, e2', qa, qb, k⟩ => ?_) he hp hall hnone
  subst e1 e2'
  rw [hks]
  cases r1 with
  | cons ra rr =>
    cases rr with
    | cons rb rr =>
      cases rr
      cases ra
      cases rb
      cases r2 with
      | cons rc rr =>
        cases rr
        cases rc
        obtain ⟨us, ru, p1, _⟩ := I2.list qa
        obtain ⟨vs, rv, p2, _⟩ := I2.list qb
        refine callS p1.isList p2.isList fun h1 hz hI hO g1 g2 kp => iterS hz ?_
        have I3 : Inv X pins σ H2 { s2 with heap := h1 } := I2.kept (t' := s2.toks) kp
        refine ⟨s2.heap.objs.size + 4, [s2.heap.objs.size + 4, s2.heap.objs.size + 2, s2.heap.objs.size + 3, s2.heap.objs.size, s2.heap.objs.size + 1], _, _, H2, rfl, I3, turn_zipS (PySem.W.ktu_apart s2.heap.objs.size a b p1.lt p2.lt), ⟨hz, hI, ⟨_, _, hO⟩, g1, g2⟩, fun c hc => ?_, k⟩
        have le : s2.heap.objs.size ≤ c := by
          have hc : c = s2.heap.objs.size + 4 ∨ c = s2.heap.objs.size + 2 ∨ c = s2.heap.objs.size + 3 ∨ c = s2.heap.objs.size ∨ c = s2.heap.objs.size + 1 := by simpa using hc
          rcases hc with q | q | q | q | q <;> rw [q] <;> first | exact Nat.le_add_right _ _ | exact Nat.le_refl _
        exact I2.fpOk le (I2.hok.fresh le)
theorem l_zipS {K : PySem.W.Frag} {nx : L2.St → Hp → Prop} {rt : VK} {ts : TS} {σ : L2.St} {H : Hp} {g : TG} {a b : Addr} (xs ys : List V) (hn : ys.length = xs.length) (Pv : Nat → L2.St → Hp → Prop) (h0 : Pv 0 σ H) (hG : ∀ i σ H, i ≤ xs.length → Pv i σ H → SqL K H a xs ∧ SqL K H b ys)
    (hs : ∀ i x y t σ H H', xs[i]? = some x → ys[i]? = some y → Pv i σ H → H t = none → Ex H H' → H' t = some (.tup [x, y]) → g (.ref t) σ H' fun σ2 H2 => ts ⟨Pv (i + 1), rt, nx, Pv (i + 1)⟩ σ2 H2) (hd : ∀ σ H, Pv xs.length σ H → nx σ H) :
    Loops (ItzS K a b) g ts nx rt σ H :=
  loops_of (walk_zipS hn) Pv h0 hG (fun i x σ H H' hi p y => by
    obtain ⟨t, u, v, rfl, ht, rfl, hx, hy⟩ := y
    exact hs i u v t σ H _ hx hy p ht (Ex.new ht) upd_same) hd
end Z

set_option Elab.async false
set_option linter.all false
set_option maxRecDepth 100000
namespace Z
open PySem L2
/-! o.m(k = v, ..), the positional ones left out -/
def tMethKw (C : Addr) (m : Str) (n : Nat) (sp : Sp) (gV : List V → List V → List V) (E : XK) (ta : TE) (tk : TA) : TE := fun σ H Q => ta σ H fun x H1 => ∃ a dx fs, x = .ref a ∧ H1 a = some (.ins C dx fs) ∧ fs.lookup m = none ∧
  tk σ H1 fun zs H2 => zs.length = n ∧ sp (gV [x] zs) H2 Q E
theorem s_methKw {C : Addr} {m : Str} {n : Nat} {sp : Sp} {gV : List V → List V → List V} {E : XK} {ta : TE} {tk : TA} {σ : L2.St} {H : Hp} {Q : VK} (k : ta σ H fun x H1 => ∃ a dx fs, x = .ref a ∧ H1 a = some (.ins C dx fs) ∧ fs.lookup m = none ∧
  tk σ H1 fun zs H2 => zs.length = n ∧ sp (gV [x] zs) H2 Q E) : tMethKw C m n sp gV E ta tk σ H Q := k
theorem s_meth {C : Addr} {m : Str} {sp : Sp} {dvs : List V} {E : XK} {ta : TE} {t : TA} {σ : L2.St} {H : Hp} {Q : VK} (k : ta σ H fun x H1 => ∃ a dx fs, x = .ref a ∧ H1 a = some (.ins C dx fs) ∧ fs.lookup m = none ∧
  t σ H1 fun vs H2 => sp (x :: (vs ++ dvs)) H2 Q E) : tMeth C m sp dvs E ta t σ H Q := k
section
variable {X : Cx} {CX : CXT} {k : Nat} {f C : Addr} {fd : FuncData} {ps ks : List Str} {sp : Sp} {E : XK} {m : Str} {pos apos : Pos} {o : Expr} {kws : List Keyword} {ta : TE} {tk : TA} {g : List Value → List Value → List Value} {gV : List V → List V → List V}
theorem pe_methKw {pl : Sem Bool} (ho : PE X o ta) (c : Cls X.K C) (hm : Meth X.K C m f) (F : FnOk X.prog X.w X.K X.mg X.base CX k f fd ps sp) (hr : Room k X.A) (hb : KBn X.K fd ps 1 ks g gV) (hx : Passes CX X E) (hk : PK X kws tk)
    (hall : (backToKw pos (keywordEach kws X.env)).all (·.1.isSome) = true := by rfl) (hks : (backToKw pos (keywordEach kws X.env)).filterMap (·.1) = ks := by rfl)
    (hpl : ((backTo pos (starEach [] X.env)).any (·.1) || (backToKw pos (keywordEach kws X.env)).any (·.1.isNone)) = false := by rfl)
    (ht : eval (.Call (.Attribute o m apos) [] kws pos) X.env = (do
      let ov ← eval o X.env
      standAt apos.atName
      let (f, first) ← holding [ov] (getMethod ov m pl)
      callWith pos f first (backTo pos (starEach [] X.env)) (backToKw pos (keywordEach kws X.env))) := by rfl) :
    PE X (.Call (.Attribute o m apos) [] kws pos) (tMethKw C m ks.length sp gV E ta tk) := by
  refine ⟨fun pins s σ H Q I h => ?_⟩
  refine PySem.W.methodCall_KW (pl := pl) (thn (ho.run pins s σ H _ I h) fun u s1 ⟨x, H1, I1, rx, a, dx, fs, ex, ea, l, q⟩ => ?_) ht
  subst ex
  obtain rfl : u = Value.ref a := rx
  refine getmeth_ok I1 ea c hm l ?_
  refine PySem.W.callWith_KW0 (first := [.ref a]) (h₀ := X.base) I.ok.mod.kin hm.kp hall (thn (hk.run pos pins s1 σ H1 _ I1 q) fun ws s2 ⟨zs, H2, I2, rz, l2, q2⟩ => ⟨I2.kIn, ?_⟩) hpl
  rw [hks]
  exact run_fnN (us := [.ref a]) (vs := [.ref a]) F hr hb hx I2 (.cons (show Value.ref a = Value.ref a from rfl) .nil) rz rfl l2 q2
end
/-! == of two lists of the same objects -/
theorem eqG_same {X : Cx} : EqG X 0 (fun x y _ => (∃ a, x = .ref a) ∧ y = x) := by
  intro A pins s σ H x y u v sb I rx ry d
  obtain ⟨⟨a, rfl⟩, rfl⟩ := d
  obtain rfl : u = Value.ref a := rx
  obtain rfl : v = Value.ref a := ry
  exact SeqAt.EqAt.same (A := A) (s := s) (.ref a) X.prog X.w X.xe _ ⟨rfl, H, I, Ext.rfl'⟩
theorem op_eqSame {X : Cx} (hr : Room 1 X.A) : OpR X (compareOp .Eq) (rEqG (DList fun x y _ => (∃ a, x = .ref a) ∧ y = x)) :=
  op_eqG (rcG_list (fun _ _ _ _ _ d => d) eqG_same) hr
end Z

set_option Elab.async false
set_option maxRecDepth 100000
set_option maxHeartbeats 4000000
set_option linter.all false
namespace Q
open PySem L2 Z
def top (i : Nat) : Stmt := PySem.Challenge.pw_pikeroll_k02_tolls_reckoned.main.body.getD i (.Pass ⟨0, 0, 0, 0⟩)
abbrev s_p_summed : Stmt := top 3
abbrev s_l_bag : Stmt := top 5
abbrev s_l_pull : Stmt := top 6
abbrev s_l_like : Stmt := top 7
abbrev s_l_far : Stmt := top 8
abbrev s_c_Toll_init : Stmt := inClass (top 2) 0
abbrev s_c_Toll_eq : Stmt := inClass (top 2) 1
abbrev s_c_Toll_plus : Stmt := inClass (top 2) 4
abbrev s_c_Toll_times : Stmt := inClass (top 2) 5
abbrev s_c_Toll_third : Stmt := inClass (top 2) 6
abbrev s_law : Stmt := top 9

local macro_rules | `(tactic| walk_at "z0") => `(tactic| try dsimp only [L2.cxOf, L2.Cx.nox, L2.Cx.wish])
local macro_rules | `(tactic| walk_at "zside") => `(tactic| first
  | decide | omega | exact ⟨by omega, by omega⟩ | exact Or.inr ⟨by omega, by omega⟩ | exact Or.inl ⟨by omega, by omega⟩ | exact ⟨by decide, by decide⟩ | exact ⟨by decide, by decide, by decide⟩ | (dsimp only; omega))
local macro_rules | `(tactic| walk_at "zex") => `(tactic| first | assumption | exact Ex.refl | (refine Ex.trans ?_ (by assumption); walk_at "zex"))
local macro_rules | `(tactic| walk_at "zbag") => `(tactic| first | assumption | (apply Bag.ext; assumption; walk_at "zex"))
local macro_rules | `(tactic| walk_at "zne") => `(tactic| first | assumption | exact Ne.symm (by assumption) | (apply neb_of; assumption; walk_at "zbag") | (apply nec_of; assumption; walk_at "zbag"))
local macro_rules | `(tactic| walk_at "zhp") => `(tactic| first | assumption | exact upd_same | (refine upd_at ?_ ?_; (focus (walk_at "zne")); walk_at "zhp") | (apply ex_at; assumption; walk_at "zhp") | (apply fr_at; assumption; (focus (walk_at "zne")); walk_at "zhp"))
local macro_rules | `(tactic| walk_at "zkb") => `(tactic| first | with_reducible exact kb_int_tuple | with_reducible exact kb_int_list | with_reducible exact kb_int_bool | with_reducible exact kb_int_int | with_reducible exact kb_str_tuple | with_reducible exact kb_str_list | with_reducible exact kb_str_bool | with_reducible exact kb_str_int | with_reducible exact kb_bool_tuple | with_reducible exact kb_bool_list | with_reducible exact kb_bool_bool | with_reducible exact kb_bool_int | with_reducible exact kb_NoneType_tuple | with_reducible exact kb_NoneType_list | with_reducible exact kb_NoneType_bool | with_reducible exact kb_NoneType_int | with_reducible exact kb_tuple_tuple | with_reducible exact kb_tuple_list | with_reducible exact kb_tuple_bool | with_reducible exact kb_tuple_int | with_reducible exact kb_list_tuple | with_reducible exact kb_list_list | with_reducible exact kb_list_bool | with_reducible exact kb_list_int)
local macro_rules | `(tactic| walk_at "zsz") => `(tactic| first | exact sz (by decide) | exact sz (by simp) | exact sz (by omega))
local macro_rules | `(tactic| walk_at "zex") => `(tactic| first | assumption | exact Ex.refl | (refine Ex.trans ?_ (by assumption); walk_at "zex"))
local macro_rules | `(tactic| walk_at "zsL") => `(tactic| first | exact SqL.of (by walk_at "zhp") | assumption | (apply sqL_ex; assumption; walk_at "zex"))
local macro_rules | `(tactic| walk_at "zsT") => `(tactic| first | exact SqT.of (by walk_at "zhp") | assumption | (apply sqT_ex; assumption; walk_at "zex"))
local macro_rules | `(tactic| walk_at "zsq") => `(tactic| first | walk_at "zsL" | walk_at "zsT" | (apply Or.inl; walk_at "zsL") | (apply Or.inr; walk_at "zsT"))
local macro_rules | `(tactic| walk_at "zty") => `(tactic| first | assumption | exact .base (.int _) | exact .base (.bl _) | exact .base (.str _) | exact .base .non | exact ty_sqT (by walk_at "zsq") | exact ty_sqL (by walk_at "zsq"))
local macro_rules | `(tactic| walk_at "zbag") => `(tactic| first | assumption | (apply Bag.ext; assumption; walk_at "zex"))
local macro_rules | `(tactic| walk_at "zpull") => `(tactic| (apply use_pull; (focus (walk_at "zbag")); (focus (first | exact ⟨by decide, by decide⟩ | exact ⟨by omega, by omega⟩ | (exact ⟨by simp; omega, by simp; omega⟩))); intro _ _ _ _ _ _))
local macro_rules | `(tactic| walk_at "zin") => `(tactic| repeat (first | exact intIn_nil | (refine intIn_cons ⟨?_, ?_⟩ ?_; (focus omega); (focus omega)) | (refine intIn_cons ?_ ?_; (focus (first | assumption | exact ⟨by omega, by omega⟩)))))
local macro_rules | `(tactic| walk_at "zfr") => `(tactic| first | assumption | exact Fr.refl | (refine Fr.trans ?_ (by assumption); walk_at "zfr") | (refine Fr.trans ?_ (Ex.fr _ (by assumption)); walk_at "zfr"))
local macro_rules | `(tactic| walk_at "zdp") => `(tactic| repeat' (first | exact DpAll.nil | apply DpAll.cons | exact Dp.int _ | exact Dp.str _ | exact Dp.bl _ | exact Dp.non | assumption))
local macro_rules | `(tactic| walk_at "zR") => `(tactic| first | assumption | exact ⟨by omega, by omega⟩)
local macro_rules | `(tactic| walk_at "z1") => `(tactic| first
  | ((with_reducible apply s_var); exact rfl)
  | with_reducible refine s_C ?_
  | with_reducible refine s_op ?_
  | ((with_reducible apply s_rI); (focus (walk_at "zside")))
  | with_reducible refine s_rI0 ?_
  | with_reducible refine s_rEqI ?_
  | with_reducible refine s_rNeI ?_
  | with_reducible refine s_rEqS ?_
  | with_reducible refine s_rNeS ?_
  | with_reducible refine s_rEqB ?_
  | with_reducible refine s_rNeB ?_
  | ((with_reducible apply s_ixL); (focus (walk_at "zsq")); (focus (exact rfl)))
  | ((with_reducible apply s_ixT); (focus (walk_at "zsq")); (focus (exact rfl)))
  | ((with_reducible apply s_rLen); (focus (walk_at "zsq")))
  | with_reducible refine s_rAbs ?_
  | with_reducible refine s_rMax2 ?_
  | with_reducible refine s_rMin2 ?_
  | with_reducible refine s_rInt1 ?_
  | with_reducible refine s_rIntB ?_
  | with_reducible refine s_rIsN ?_
  | with_reducible refine s_rNotN ?_
  | with_reducible refine s_rFind ?_
  | ((with_reducible apply s_newS); (focus (walk_at "zsz")); intro _ _ _ _ _)
  | ((with_reducible apply s_new); intro _ _ _ _ _)
  | ((with_reducible apply s_slL); (focus (walk_at "zsq")))
  | ((with_reducible apply s_isi); (focus (walk_at "zty")); (focus (walk_at "zkb")))
  | ((with_reducible apply s_isiTL); (focus (walk_at "zhp")); (focus (walk_at "zty")); (focus (walk_at "zkb")); (focus (walk_at "zkb")))
  | ((with_reducible apply s_rListOf); (focus (walk_at "zsq")))
  | ((with_reducible apply s_rTupleOf); (focus (walk_at "zsq")))
  | ((with_reducible apply s_rDivmod); (focus (walk_at "zside")))
  | ((with_reducible apply s_rRjust); (focus (exact rfl)))
  | ((with_reducible apply s_rEq); (focus (exact rfl)))
  | ((with_reducible apply s_rNe); (focus (exact rfl)))
  | with_reducible refine s_tB ?_
  | with_reducible refine s_tTest ?_
  | with_reducible refine s_bl ?_
  | with_reducible refine s_nil ?_
  | with_reducible refine s_cons ?_
  | with_reducible refine s_CB ?_
  | with_reducible refine s_call ?_
  | walk_at "zpull"
  | ((with_reducible apply use_int); (focus (walk_at "zbag")); intro _ _ _ _ _ _)
  | with_reducible refine s_seq ?_
  | ((with_reducible refine s_set ?_); try dsimp only [List.set_cons_zero, List.set_cons_succ])
  | with_reducible refine s_ifS ?_
  | with_reducible refine s_ret ?_
  | with_reducible refine s_drop ?_
  | with_reducible refine s_next ?_
  | with_reducible refine s_and ?_
  | with_reducible refine s_or ?_
  | with_reducible refine s_not ?_
  | with_reducible refine s_andV ?_
  | with_reducible refine s_orV ?_
  | with_reducible refine s_notV ?_
  | with_reducible refine s_ifE ?_
  | with_reducible refine s_un ?_
  | with_reducible refine s_rU ?_
  | with_reducible refine s_chain ?_
  | with_reducible refine s_tup ?_
  | with_reducible refine s_lst ?_
  | with_reducible refine s_sl ?_
  | with_reducible refine s_noPart ?_
  | with_reducible refine s_part ?_
  | with_reducible refine s_partI ?_
  | ((with_reducible refine s_gName ?_); try dsimp only [List.set_cons_zero, List.set_cons_succ])
  | with_reducible refine s_gSub ?_
  | ((with_reducible apply s_gTup); (focus (walk_at "zsq")); (focus (exact rfl)))
  | with_reducible refine s_gCons ?_
  | with_reducible refine s_gNil ?_
  | with_reducible refine s_asg ?_
  | with_reducible refine s_par ?_
  | ((with_reducible refine s_parI ?_); try dsimp only [List.set_cons_zero, List.set_cons_succ])
  | with_reducible refine s_fld ?_
  | with_reducible refine s_bm ?_
  | with_reducible refine s_bm0 ?_
  | with_reducible refine s_m0 ?_
  | with_reducible refine s_m1 ?_
  | with_reducible refine s_for ?_
  | with_reducible refine s_iRng1 ?_
  | with_reducible refine s_iRng2 ?_
  | with_reducible refine s_iList ?_
  | with_reducible refine s_iTup ?_
  | with_reducible refine s_iStr ?_
  | with_reducible refine s_iEnum ?_
  | with_reducible refine ite_t ?_
  | with_reducible refine ite_f ?_
  | with_reducible refine s_isStr ?_
  | with_reducible refine s_callS ?_
  | with_reducible refine s_rNotInS ?_
  | with_reducible refine s_rInS ?_
  | with_reducible refine s_tFmt ?_
  | with_reducible refine s_tFS ?_
  | with_reducible refine s_jsNil ?_
  | with_reducible refine s_jsCons ?_
  | with_reducible refine s_tRevL ?_
  | ((with_reducible apply s_revV); (focus (walk_at "zsq")))
  | with_reducible refine s_tyS ?_
  | ((with_reducible apply s_tyL); (focus (walk_at "zsq")))
  | ((with_reducible apply s_rRjust2); (focus (exact ⟨by decide, by decide⟩)))
  | with_reducible refine s_lc ?_
  | with_reducible refine s_yes ?_
  | ((with_reducible apply ite_fE); (focus (exact rfl)))
  | ((with_reducible apply ite_tE); (focus (exact rfl))))
local macro_rules | `(tactic| walk_at "z") => `(tactic| repeat (walk_at "z1"))

structure Tx (K : PySem.W.Frag) (mg : Str → Option Value) (w : World) where
  f_p_summed : Addr
  d_p_summed : FuncData
  F_p_summed : FunD K "summed" "summed" (defArgs s_p_summed) (defBody s_p_summed) (defScope s_p_summed) [.non] [] f_p_summed d_p_summed
  g_p_summed : mg "summed" = some (.ref f_p_summed)
  f_l_bag : Addr
  d_l_bag : FuncData
  F_l_bag : Fun K "_law_bag" "_law_bag" s_l_bag f_l_bag d_l_bag
  g_l_bag : mg "_law_bag" = some (.ref f_l_bag)
  b_l_bag : Binds K d_l_bag ["_law_script"] []
  f_l_pull : Addr
  d_l_pull : FuncData
  F_l_pull : Fun K "_law_pull" "_law_pull" s_l_pull f_l_pull d_l_pull
  g_l_pull : mg "_law_pull" = some (.ref f_l_pull)
  b_l_pull : Binds K d_l_pull ["_law_bag_here", "_law_amount"] []
  f_l_like : Addr
  d_l_like : FuncData
  F_l_like : Fun K "_law_like" "_law_like" s_l_like f_l_like d_l_like
  g_l_like : mg "_law_like" = some (.ref f_l_like)
  b_l_like : Binds K d_l_like ["_law_found", "_law_due"] []
  f_l_far : Addr
  d_l_far : FuncData
  F_l_far : Fun K "_law_far" "_law_far" s_l_far f_l_far d_l_far
  g_l_far : mg "_law_far" = some (.ref f_l_far)
  b_l_far : Binds K d_l_far ["_law_bag_here"] []
  z_len : mg "len" = none
  z_isinstance : mg "isinstance" = none
  z_tuple : mg "tuple" = none
  z_list : mg "list" = none
  z_bool : mg "bool" = none
  z_range : mg "range" = none
  z_all : mg "all" = none
  z_sum : mg "sum" = none
  z_zip : mg "zip" = none
  z_int : mg "int" = none
  C_Toll : Addr
  g_Toll : mg "Toll" = some (.ref C_Toll)
  cls_Toll : Cls K C_Toll
  f_c_Toll_init : Addr
  d_c_Toll_init : FuncData
  F_c_Toll_init : FunD K "__init__" "Toll.__init__" (defArgs s_c_Toll_init) (defBody s_c_Toll_init) (defScope s_c_Toll_init) [.int 0] [] f_c_Toll_init d_c_Toll_init
  at_c_Toll_init : PySem.W.findIn K (.ref C_Toll) "__init__" = some (some (.ref f_c_Toll_init))
  fn_c_Toll_init : PySem.W.isFn K (.ref f_c_Toll_init) = true
  mk_Toll : Mk K C_Toll f_c_Toll_init
  f_c_Toll_eq : Addr
  d_c_Toll_eq : FuncData
  F_c_Toll_eq : Fun K "__eq__" "Toll.__eq__" s_c_Toll_eq f_c_Toll_eq d_c_Toll_eq
  b_c_Toll_eq : Binds K d_c_Toll_eq ["self", "other"] []
  at_c_Toll_eq : PySem.W.findIn K (.ref C_Toll) "__eq__" = some (some (.ref f_c_Toll_eq))
  fn_c_Toll_eq : PySem.W.isFn K (.ref f_c_Toll_eq) = true
  own_Toll : Z.OwnE K C_Toll f_c_Toll_eq
  f_c_Toll_plus : Addr
  d_c_Toll_plus : FuncData
  F_c_Toll_plus : Fun K "plus" "Toll.plus" s_c_Toll_plus f_c_Toll_plus d_c_Toll_plus
  b_c_Toll_plus : Binds K d_c_Toll_plus ["self", "other"] []
  at_c_Toll_plus : PySem.W.findIn K (.ref C_Toll) "plus" = some (some (.ref f_c_Toll_plus))
  fn_c_Toll_plus : PySem.W.isFn K (.ref f_c_Toll_plus) = true
  f_c_Toll_times : Addr
  d_c_Toll_times : FuncData
  F_c_Toll_times : FunD K "times" "Toll.times" (defArgs s_c_Toll_times) (defBody s_c_Toll_times) (defScope s_c_Toll_times) [.int 2] [] f_c_Toll_times d_c_Toll_times
  at_c_Toll_times : PySem.W.findIn K (.ref C_Toll) "times" = some (some (.ref f_c_Toll_times))
  fn_c_Toll_times : PySem.W.isFn K (.ref f_c_Toll_times) = true
  f_c_Toll_third : Addr
  d_c_Toll_third : FuncData
  F_c_Toll_third : Fun K "third" "Toll.third" s_c_Toll_third f_c_Toll_third d_c_Toll_third
  b_c_Toll_third : Binds K d_c_Toll_third ["self"] []
  at_c_Toll_third : PySem.W.findIn K (.ref C_Toll) "third" = some (some (.ref f_c_Toll_third))
  fn_c_Toll_third : PySem.W.isFn K (.ref f_c_Toll_third) = true
  na_Toll_halves : NoAttr K C_Toll "halves"
  ty_Toll : ∀ {H : Hp} {a dx : Addr} {fs : List (Str × V)}, H a = some (.ins C_Toll dx fs) → TyX K H (.ref a) (.ref C_Toll)
  ko_Toll : PySem.W.kitOne K (.ref C_Toll) (.ref C_Toll) = some true
  nf_Toll : PySem.W.notFirst K C_Toll (.ref C_Toll) = true
  ko_Toll_int : PySem.W.kitOne K (.type "int") (.ref C_Toll) = some false
  nf_Toll_int : PySem.W.notFirst K C_Toll (.type "int") = true
  ko_Toll_str : PySem.W.kitOne K (.type "str") (.ref C_Toll) = some false
  nf_Toll_str : PySem.W.notFirst K C_Toll (.type "str") = true
  ko_Toll_list : PySem.W.kitOne K (.type "list") (.ref C_Toll) = some false
  nf_Toll_list : PySem.W.notFirst K C_Toll (.type "list") = true
section
variable {P : Program} {w : World} {K : PySem.W.Frag} {mg : Str → Option Value} {base : Heap}
theorem sc_l_pull : FnScope ["_law_bag_here", "_law_amount", "_law_cell", "_law_got", "_law_seed"] ["_law_bag_here", "_law_amount"] (defScope s_l_pull) :=
  ⟨rfl, rfl, rfl, by decide +kernel, rfl, by decide +kernel, by decide +kernel⟩
theorem ok_l_pull (T : Tx K mg w) : FnOk P w K mg base CX0 1 T.f_l_pull T.d_l_pull ["_law_bag_here", "_law_amount"] spPull := by
  refine T.F_l_pull.ok sc_l_pull (fun vs H Q E h => ?_) (fun cdv A outer s H vs Q E hr h => ?_)
  · obtain ⟨b, c, n, rfl, _⟩ := h
    rfl
  · obtain ⟨b, c, n, rfl, B, n0, n1, k⟩ := h
    have cb : c ≠ b := B.cb
    obtain ⟨cells, i, big, salt, hb, hc, hi, hg, hs0, hs1⟩ := B.ex
    refine ⟨_, (Evl.pss_cut (ps_if (PW.pt (pw_and (pt_cmpR op_eq (pe_ix (r := rIxL K) ix_list (pv 0) pe_int (fun _ _ => rfl)) pe_int (nomark _)) (pw_and1 (pt_cmpR op_lt (pe_ix (r := rIxL K) ix_list (pv 0) pe_int (fun _ _ => rfl)) (pe_callB (r := Z.rLen K) cz_len (by rfl) T.z_len PySem.boot_len (pa_cons (pe_ix (r := rIxL K) ix_list (pv 0) pe_int (fun _ _ => rfl)) pa_nil)) (nomark _))))) (pss_cons (ps_set (i := 2) sc_l_pull.nd rfl (Or.inl rfl) (pe_ix (r := rIxL K) ix_list (pe_ix (r := rIxL K) ix_list (pv 0) pe_int (fun _ _ => rfl)) (pe_ix (r := rIxL K) ix_list (pv 0) pe_int (fun _ _ => rfl)) (fun _ _ => rfl))) (pss_cons (ps_asg (pe_op op_add (pe_ix (r := rIxL K) ix_list (pv 0) pe_int (fun _ _ => rfl)) pe_int) (pg_sub (pv 0) pe_int set_list)) (pss_one (ps_if (pt_cmpR op_ge (pv 2) (pe_op op_pow pe_int pe_int) (nomark _)) (pss_one (ps_asg (pv 2) (pg_sub (pv 0) pe_int set_list))) (pss_one (ps_asg (pe_op op_mod (pe_op op_add (pe_op op_add (pe_op op_mul (pe_ix (r := rIxL K) ix_list (pv 0) pe_int (fun _ _ => rfl)) pe_int) (pe_op op_mul (pe_op op_mod (pv 2) pe_int) pe_int)) pe_int) pe_int) (pg_sub (pv 0) pe_int set_list))))))) pss_nil) (pss_cons (ps_if (pt_cmpR op_gt (pe_ix (r := rIxL K) ix_list (pv 0) pe_int (fun _ _ => rfl)) pe_int (nomark _)) (pss_cons (ps_set (i := 3) sc_l_pull.nd rfl (Or.inl rfl) (pe_op op_mod (pe_ix (r := rIxL K) ix_list (pv 0) pe_int (fun _ _ => rfl)) (pv 1))) (pss_cons (ps_asg (pe_op op_fdivW (pe_ix (r := rIxL K) ix_list (pv 0) pe_int (fun _ _ => rfl)) (pv 1)) (pg_sub (pv 0) pe_int set_list)) (pss_one (ps_ret (pv 3))))) pss_nil) (pss_cons (ps_set (i := 4) sc_l_pull.nd rfl (Or.inl rfl) (pe_ix (r := rIxL K) ix_list (pv 0) pe_int (fun _ _ => rfl))) (pss_cons (ps_asg (pe_op op_mod (pe_op op_add (pe_op op_add (pe_op op_mul (pv 4) pe_int) (pe_op op_mul (pe_op op_fdiv (pv 4) pe_int) pe_int)) pe_int) pe_int) (pg_sub (pv 0) pe_int set_list)) (pss_one (ps_ret (pe_op op_mod (pe_op op_add (pe_op op_fdiv (pe_ix (r := rIxL K) ix_list (pv 0) pe_int (fun _ _ => rfl)) pe_int) (pe_op op_mul (pe_op op_mod (pe_ix (r := rIxL K) ix_list (pv 0) pe_int (fun _ _ => rfl)) pe_int) pe_int)) (pv 1)))))))), ?_⟩
    refine at_start (ρ' := [some _, some _, none, none, none]) rfl ?_
    walk_at "z0"
    refine s_cut (fun ρ H' => ∃ v, ρ = [some (.ref b), some (.int n), v, none, none] ∧ Bag H' b c ∧ Fr b H H') ?_ ?_
    · walk_at "z"
      refine ite_dec (fun h0 => ?_) (fun h0 => ?_)
      · walk_at "z"
        refine ite_dec (fun h1 => ?_) (fun h1 => ?_)
        · rw [List.length_map] at h1
          have h2 : i < cells.length := by omega
          walk_at "z"
          refine s_ixL (SqL.of hc) (atI_nat (v := .int (cells[i])) (by rw [List.getElem?_map, List.getElem?_eq_getElem h2]; rfl)) ?_
          walk_at "z"
          refine s_setN hb (m := 1) rfl [.ref c, .int ((i + 1 : Nat) : Int), .int big, .int salt] rfl fun H1 e1 hb1 => ?_
          have hc1 := e1 _ _ cb hc
          walk_at "z"
          refine ite_dec (fun h3 => ?_) (fun h3 => ?_)
          · walk_at "z"
            refine s_setN hb1 (m := 2) rfl [.ref c, .int ((i + 1 : Nat) : Int), .int (cells[i]), .int salt] rfl fun H2 e2 hb2 => ?_
            have h3 : (10 : Int) ^ 18 ≤ cells[i] := h3
            exact ⟨_, rfl, .mk' hb2 (e2 _ _ cb hc1) h2 (by omega) ⟨hs0, hs1⟩, e1.trans e2⟩
          · walk_at "z"
            refine s_setN hb1 (m := 3) rfl [.ref c, .int ((i + 1 : Nat) : Int), .int big, .int _] rfl fun H2 e2 hb2 => ?_
            exact ⟨_, rfl, .mk' hb2 (e2 _ _ cb hc1) h2 hg ⟨Int.emod_nonneg _ (by decide), Int.emod_lt_of_pos _ (by decide)⟩, e1.trans e2⟩
        · walk_at "z"
          exact ⟨_, rfl, B, Fr.refl⟩
      · walk_at "z"
        exact ⟨_, rfl, B, Fr.refl⟩
    · rintro ρ H1 ⟨v, rfl, B1, e1⟩
      obtain ⟨cells, i, big, salt, hb, hc, hi, hg, hs0, hs1⟩ := B1.ex
      walk_at "z"
      refine ite_dec (fun h0 => ?_) (fun h0 => ?_)
      · walk_at "z"
        refine s_rI (wide_div n0 (b := 200) (by omega) (by decide) (by decide)) ?_
        walk_at "z"
        refine s_setN hb (m := 2) rfl [.ref c, .int (i : Int), .int (big / n), .int salt] rfl fun H2 e2 hb2 => ?_
        walk_at "z"
        exact k _ _ (Int.emod_nonneg _ (by omega)) (Int.emod_lt_of_pos _ n0) (.mk' hb2 (e2 _ _ cb hc) hi (Int.ediv_nonneg hg (by omega)) ⟨hs0, hs1⟩) (e1.trans e2)
      · walk_at "z"
        refine s_setN hb (m := 3) rfl [.ref c, .int (i : Int), .int big, .int _] rfl fun H2 e2 hb2 => ?_
        walk_at "z"
        exact k _ _ (Int.emod_nonneg _ (by omega)) (Int.emod_lt_of_pos _ n0) (.mk' hb2 (e2 _ _ cb hc) hi hg ⟨Int.emod_nonneg _ (by decide), Int.emod_lt_of_pos _ (by decide)⟩) (e1.trans e2)

theorem sc_l_bag : FnScope ["_law_script", "_law_salt", "_law_cell"] ["_law_script"] (defScope s_l_bag) :=
  ⟨rfl, rfl, rfl, by decide +kernel, rfl, by decide +kernel, by decide +kernel⟩
theorem ok_l_bag (T : Tx K mg w) : FnOk P w K mg base CX0 1 T.f_l_bag T.d_l_bag ["_law_script"] (spBag K) := by
  refine T.F_l_bag.ok sc_l_bag (fun vs H Q E h => ?_) (fun cdv A outer s H vs Q E hr h => ?_)
  · obtain ⟨a, ns, rfl, _⟩ := h
    rfl
  · obtain ⟨a, ns, rfl, hS, hl, k⟩ := h
    refine ⟨_, (pss_cons (ps_set (i := 1) sc_l_bag.nd rfl (Or.inl rfl) pe_int) (pss_cons (ps_for PassesOwn.never rfl (pi_list (pe_slice (r := rSlL K) sl_list (pv 0) po_none (po_some pe_int))) (pg_name (i := 2) sc_l_bag.nd rfl (Or.inl rfl)) (pss_one (ps_set (i := 1) sc_l_bag.nd rfl (Or.inl rfl) (pe_op op_mod (pe_op op_add (pe_op op_add (pe_op op_mul (pv 1) pe_int) (pe_op op_mod (pv 2) pe_int)) pe_int) pe_int)))) (pss_one (ps_ret (pe_lst (pa_cons (pe_callTy (r := rListOf K) cz_listOf (by rfl) T.z_list (by decide +kernel) (pa_cons (pe_slice (r := rSlL K) sl_list (pv 0) po_none (po_some pe_int)) pa_nil)) (pa_cons pe_int (pa_cons pe_int (pa_cons (pv 1) pa_nil))))))))), ?_⟩
    refine at_start (ρ' := [some _, none, none]) rfl ?_
    walk_at "z0"
    walk_at "z"
    rename_i p H1 _ e1 hp
    rw [cut63 (by rw [List.length_map]; exact hl)] at hp
    refine l_list (ns.map V.int) (fun i σ H' => ∃ (z : Int) (v : Option V), σ = [some (.ref a), some (.int z), v] ∧ H' = H1 ∧ 0 ≤ z ∧ z < 2147483647) ⟨977, none, rfl, rfl, by decide, by decide⟩ (fun i σ H' _ h => by
      obtain ⟨_, _, _, rfl, _⟩ := h
      exact .of hp) (fun i x σ H' hx h => ?_) (fun σ H' h => ?_)
    · obtain ⟨z, v, rfl, rfl, h0, h1⟩ := h
      obtain ⟨y, rfl⟩ := map_int_get hx
      walk_at "z"
      exact ⟨_, _, rfl, rfl, Int.emod_nonneg _ (by decide), Int.emod_lt_of_pos _ (by decide)⟩
    · obtain ⟨z, v, rfl, rfl, h0, h1⟩ := h
      walk_at "z"
      rename_i q H2 nq e2 hq c H3 nc e3 hc b H4 nb e4 hb
      rw [cut63 (by rw [List.length_map]; exact hl)] at hc
      refine k b c H4 (Ex.back (by walk_at "zex") nb) (Ex.back (by walk_at "zex") nc) (by walk_at "zex") (.mk' (i := 0) hb (e4 _ _ hc) (Nat.zero_le _) (Int.le_refl _) ⟨h0, h1⟩)

theorem sc_l_like : FnScope ["_law_found", "_law_due", "_law_k"] ["_law_found", "_law_due"] (defScope s_l_like) :=
  ⟨rfl, rfl, rfl, by decide +kernel, rfl, by decide +kernel, by decide +kernel⟩
theorem ok_l_like (T : Tx K mg w) : ∀ n, FnOk P w K mg base CX0 n T.f_l_like T.d_l_like ["_law_found", "_law_due"] (spLike K n)
  | 0 => fnOk_no like_no
  | n + 1 => by
    have IH := ok_l_like T n
    refine T.F_l_like.ok sc_l_like (fun vs H Q E h => ?_) (fun cdv A outer s H vs Q E hr h => ?_)
    · obtain ⟨x, y, d, rfl, _⟩ := h
      rfl
    · obtain ⟨x, y, d, rfl, dx, dy, ok, k⟩ := h
      refine ⟨_, (pss_cons (ps_if (PW.pt (pw_or (pt_cmpR op_ne (pe_callB (r := rIsi K) call_isi (by rfl) T.z_isinstance (by decide +kernel) (pa_cons (pv 1) (pa_cons (pe_bltn (v := .ty "tuple") rfl T.z_tuple (by decide +kernel) rfl) pa_nil))) (pe_callB (r := rIsi K) call_isi (by rfl) T.z_isinstance (by decide +kernel) (pa_cons (pv 0) (pa_cons (pe_bltn (v := .ty "tuple") rfl T.z_tuple (by decide +kernel) rfl) pa_nil))) (nomark _)) (pw_or1 (pt_cmpR op_ne (pe_callB (r := rIsi K) call_isi (by rfl) T.z_isinstance (by decide +kernel) (pa_cons (pv 1) (pa_cons (pe_bltn (v := .ty "list") rfl T.z_list (by decide +kernel) rfl) pa_nil))) (pe_callB (r := rIsi K) call_isi (by rfl) T.z_isinstance (by decide +kernel) (pa_cons (pv 0) (pa_cons (pe_bltn (v := .ty "list") rfl T.z_list (by decide +kernel) rfl) pa_nil))) (nomark _))))) (pss_one (ps_ret pe_bl)) pss_nil) (pss_cons (ps_if (pt_not (pt_val (pe_callB (r := rIsiT K) call_isiT (by rfl) T.z_isinstance (by decide +kernel) (pa_cons (pv 1) (pa_cons (pe_tup (pa_cons (pe_bltn (v := .ty "tuple") rfl T.z_tuple (by decide +kernel) rfl) (pa_cons (pe_bltn (v := .ty "list") rfl T.z_list (by decide +kernel) rfl) pa_nil))) pa_nil))))) (pss_one (ps_ret (pe_and (pe_cmpR op_eq (pe_callB (r := rIsi K) call_isi (by rfl) T.z_isinstance (by decide +kernel) (pa_cons (pv 0) (pa_cons (pe_bltn (v := .ty "bool") rfl T.z_bool (by decide +kernel) rfl) pa_nil))) (pe_callB (r := rIsi K) call_isi (by rfl) T.z_isinstance (by decide +kernel) (pa_cons (pv 1) (pa_cons (pe_bltn (v := .ty "bool") rfl T.z_bool (by decide +kernel) rfl) pa_nil))) (nomark _)) (pe_one (pe_cmpR op_eq (pv 0) (pv 1) (nomark _)))))) pss_nil) (pss_one (ps_ret (pe_and (pe_cmpR op_eq (pe_callB (r := Z.rLen K) cz_len (by rfl) T.z_len PySem.boot_len (pa_cons (pv 0) pa_nil)) (pe_callB (r := Z.rLen K) cz_len (by rfl) T.z_len PySem.boot_len (pa_cons (pv 1) pa_nil)) (nomark _)) (pe_one (pe_callB (r := rAll K) (cr_all rfl) (by rfl) T.z_all (by decide +kernel) (pa_cons (pe_lc (own := [("_law_k", 2)]) (by rfl) sc_l_like.nd (pi_range1 (by rfl) T.z_range (pa_cons (pe_callB (r := Z.rLen K) cz_len (by rfl) T.z_len PySem.boot_len (pa_cons (pv 1) pa_nil)) pa_nil)) (blkOk_by (own := [("_law_k", 2)]) (N := ["_law_found", "_law_due", "_law_k"]) (sc := defScope s_l_like) (by decide +kernel)) (fun _ _ _ _ _ => (pg_name (i := 2) sc_l_like.nd rfl (Or.inl rfl))) (fun _ _ _ _ _ => pts_nil) (fun _ _ _ _ _ => (pe_call IH hr rfl T.g_l_like T.F_l_like.kp T.b_l_like .nil pass0 (pa_cons (pe_ix (r := rIx K) ix_seq (pv 0) (pv 2) (fun _ _ => rfl)) (pa_cons (pe_ix (r := rIx K) ix_seq (pv 1) (pv 2) (fun _ _ => rfl)) pa_nil))))) pa_nil)))))))), ?_⟩
      refine at_start (ρ' := [some _, some _, none]) rfl ?_
      walk_at "z0"
      cases dx with
      | int i =>
        cases dy
        walk_at "z"
        exact ev_blT (by simp) (k _ (by walk_at "zex"))
      | bl i =>
        cases dy
        walk_at "z"
        exact ev_blT (by simp) (k _ (by walk_at "zex"))
      | str i =>
        cases dy
        walk_at "z"
        exact ev_blT (by simp) (k _ (by walk_at "zex"))
      | non =>
        cases dy
        walk_at "z"
        exact ev_blT (by simp) (k _ (by walk_at "zex"))
      | lst hx rx =>
        rename_i a xs ds
        cases dy with
        | lst hy ry =>
        rename_i b ys
        obtain ⟨hlen, hds⟩ := ok
        have l1 := dpAll_len rx
        have l2 := dpAll_len ry
        walk_at "z"
        refine ite_pos (by omega) ?_
        walk_at "z"
        rename_i H1 _ e1 _
        refine c_range (by omega) (fun D H' => H1 D = none ∧ Ex H1 H') (fun D i l H' => l = List.replicate i (.bl true)) (fun D H' n e _ => ⟨⟨n, e⟩, rfl⟩) (fun D i l H2 hi e2 hl hz r => ?_) (fun D l H2 e2 hl hz r => ?_)
        · obtain ⟨nD, e2⟩ := e2
          have i1 : i < xs.length := by omega
          have i2 : i < ys.length := by omega
          have i3 : i < ds.length := by omega
          walk_at "z"
          refine ⟨rfl, ?_⟩
          walk_at "z"
          refine Or.inl ⟨_, _, _, _, rfl, rfl, (Ex.sqL (by walk_at "zex") hx), atI_nat (List.getElem?_eq_getElem i1), ?_⟩
          walk_at "z"
          refine Or.inl ⟨_, _, _, _, rfl, rfl, (Ex.sqL (by walk_at "zex") hy), atI_nat (List.getElem?_eq_getElem i2), ?_⟩
          walk_at "z"
          refine ⟨_, _, ds[i], rfl, dp_ex (by walk_at "zex") (dpAll_get rx (List.getElem?_eq_getElem i1) (List.getElem?_eq_getElem i3)), dp_ex (by walk_at "zex") (dpAll_get ry (List.getElem?_eq_getElem i2) (List.getElem?_eq_getElem i3)), hds _ (List.getElem_mem i3), fun H3 e3 => ?_⟩
          exact c_put (e3 _ _ hl) (by omega) fun H5 f5 _ => ⟨⟨nD, fun q o hq => f5 _ _ (ne_of_none hq nD) (e3 _ _ (e2 _ _ hq))⟩, by rw [r, List.replicate_succ']⟩
        · obtain ⟨nD, e2⟩ := e2
          walk_at "z"
          refine s_rAll (List.replicate ys.length true) (SqL.of hl) (by rw [r, List.map_replicate]; simp) ?_
          exact ev_blT (by simp) (k _ (by walk_at "zex"))
      | tup hx rx =>
        rename_i a xs ds
        cases dy with
        | tup hy ry =>
        rename_i b ys
        obtain ⟨hlen, hds⟩ := ok
        have l1 := dpAll_len rx
        have l2 := dpAll_len ry
        walk_at "z"
        refine ite_pos (by omega) ?_
        walk_at "z"
        rename_i H1 _ e1 _
        refine c_range (by omega) (fun D H' => H1 D = none ∧ Ex H1 H') (fun D i l H' => l = List.replicate i (.bl true)) (fun D H' n e _ => ⟨⟨n, e⟩, rfl⟩) (fun D i l H2 hi e2 hl hz r => ?_) (fun D l H2 e2 hl hz r => ?_)
        · obtain ⟨nD, e2⟩ := e2
          have i1 : i < xs.length := by omega
          have i2 : i < ys.length := by omega
          have i3 : i < ds.length := by omega
          walk_at "z"
          refine ⟨rfl, ?_⟩
          walk_at "z"
          refine Or.inr (Or.inl ⟨_, _, _, _, rfl, rfl, (Ex.sqT (by walk_at "zex") hx), atI_nat (List.getElem?_eq_getElem i1), ?_⟩)
          walk_at "z"
          refine Or.inr (Or.inl ⟨_, _, _, _, rfl, rfl, (Ex.sqT (by walk_at "zex") hy), atI_nat (List.getElem?_eq_getElem i2), ?_⟩)
          walk_at "z"
          refine ⟨_, _, ds[i], rfl, dp_ex (by walk_at "zex") (dpAll_get rx (List.getElem?_eq_getElem i1) (List.getElem?_eq_getElem i3)), dp_ex (by walk_at "zex") (dpAll_get ry (List.getElem?_eq_getElem i2) (List.getElem?_eq_getElem i3)), hds _ (List.getElem_mem i3), fun H3 e3 => ?_⟩
          exact c_put (e3 _ _ hl) (by omega) fun H5 f5 _ => ⟨⟨nD, fun q o hq => f5 _ _ (ne_of_none hq nD) (e3 _ _ (e2 _ _ hq))⟩, by rw [r, List.replicate_succ']⟩
        · obtain ⟨nD, e2⟩ := e2
          walk_at "z"
          refine s_rAll (List.replicate ys.length true) (SqL.of hl) (by rw [r, List.map_replicate]; simp) ?_
          exact ev_blT (by simp) (k _ (by walk_at "zex"))

theorem sc_l_far : FnScope ["_law_bag_here", "_law_number"] ["_law_bag_here"] (defScope s_l_far) :=
  ⟨rfl, rfl, rfl, by decide +kernel, rfl, by decide +kernel, by decide +kernel⟩
theorem ok_l_far (T : Tx K mg w) : FnOk P w K mg base CX0 2 T.f_l_far T.d_l_far ["_law_bag_here"] (spInt (-(2 ^ 70)) (2 ^ 70)) := by
  refine T.F_l_far.ok sc_l_far (fun vs H Q E h => ?_) (fun cdv A outer s H vs Q E hr h => ?_)
  · obtain ⟨b, c, rfl, _⟩ := h
    rfl
  · obtain ⟨b, c, rfl, B, k⟩ := h
    refine ⟨_, (pss_cons (ps_set (i := 1) sc_l_far.nd rfl (Or.inl rfl) (pe_call (ok_l_pull T) (hr.mono (by decide)) rfl T.g_l_pull T.F_l_pull.kp T.b_l_pull .nil pass0 (pa_cons (pv 0) (pa_cons (pe_op op_pow pe_int pe_int) pa_nil)))) (pss_cons (ps_if (pt_cmpR op_eq (pe_call (ok_l_pull T) (hr.mono (by decide)) rfl T.g_l_pull T.F_l_pull.kp T.b_l_pull .nil pass0 (pa_cons (pv 0) (pa_cons pe_int pa_nil))) pe_int (nomark _)) (pss_one (ps_set (i := 1) sc_l_far.nd rfl (Or.inl rfl) (pe_op op_add (pv 1) (pe_op op_pow pe_int pe_int)))) pss_nil) (pss_cons (ps_if (pt_cmpR op_eq (pe_call (ok_l_pull T) (hr.mono (by decide)) rfl T.g_l_pull T.F_l_pull.kp T.b_l_pull .nil pass0 (pa_cons (pv 0) (pa_cons pe_int pa_nil))) pe_int (nomark _)) (pss_one (ps_ret (pe_op op_sub (pe_un un_neg pe_int) (pv 1)))) pss_nil) (pss_one (ps_ret (pv 1)))))), ?_⟩
    refine at_start (ρ' := [some _, none]) rfl ?_
    walk_at "z0"
    walk_at "z"
    rename_i z H1 z0 z1 B1 f1 y H2 y0 y1 B2 f2
    rw [show (10 : Int) ^ Int.toNat 9 = 1000000000 from by decide +kernel] at z1
    refine ite_dec (fun h1 => ?_) (fun h1 => ?_)
    · walk_at "z"
      rename_i x H3 x0 x1 B3 f3
      refine ite_dec (fun h2 => ?_) (fun h2 => ?_)
      · walk_at "z"
        rw [show (10 : Int) ^ Int.toNat 20 = 100000000000000000000 from by decide +kernel]
        exact k _ _ (by omega) (by omega) (by walk_at "zbag") (by walk_at "zfr")
      · walk_at "z"
        rw [show (10 : Int) ^ Int.toNat 20 = 100000000000000000000 from by decide +kernel]
        exact k _ _ (by omega) (by omega) (by walk_at "zbag") (by walk_at "zfr")
    · walk_at "z"
      rename_i x H3 x0 x1 B3 f3
      refine ite_dec (fun h2 => ?_) (fun h2 => ?_)
      · walk_at "z"
        exact k _ _ (by omega) (by omega) (by walk_at "zbag") (by walk_at "zfr")
      · walk_at "z"
        exact k _ _ (by omega) (by omega) (by walk_at "zbag") (by walk_at "zfr")
/-! Toll -/
def TollAt (C : Addr) (H : Hp) (a : Addr) (n : Int) : Prop := ∃ dx, H a = some (.ins C dx [("halves", .int n)])
theorem TollAt.ex {C a : Addr} {H H' : Hp} {n : Int} (h : TollAt C H a n) (e : Ex H H') : TollAt C H' a n := by
  obtain ⟨dx, h⟩ := h
  exact ⟨dx, e _ _ h⟩
def spInit (C : Addr) : Sp := fun vs H Q _ => ∃ (a dx : Addr) (n : Int), vs = [.ref a, .int n] ∧ H a = some (.ins C dx []) ∧ Q .non (upd H a (.ins C dx [("halves", .int n)]))
theorem use_init {C : Addr} {H : Hp} {n : Int} {E : XK} {R : Addr → Hp → Prop} (k : ∀ x H', H x = none → Ex H H' → TollAt C H' x n → R x H') : ∀ x dx, H x = none → H dx = none → dx ≠ x →
    spInit C [.ref x, .int n] (upd (upd H dx (.own x)) x (.ins C dx [])) (fun v H2 => v = .non ∧ R x H2) E := fun x dx hx hd ne => by
  refine ⟨x, dx, n, rfl, upd_same, rfl, k x _ hx (fun a o h => ?_) ⟨dx, upd_same⟩⟩
  have h1 : a ≠ x := ne_of_none h hx
  have h2 : a ≠ dx := ne_of_none h hd
  rw [upd_ne h1, upd_ne h1, upd_ne h2]
  exact h
theorem sc_c_Toll_init : FnScope ["self", "halves"] ["self", "halves"] (defScope s_c_Toll_init) :=
  ⟨rfl, rfl, rfl, by decide +kernel, rfl, by decide +kernel, by decide +kernel⟩
theorem ok_c_Toll_init (T : Tx K mg w) : FnOk P w K mg base CX0 1 T.f_c_Toll_init T.d_c_Toll_init ["self", "halves"] (spInit T.C_Toll) := by
  refine T.F_c_Toll_init.ok sc_c_Toll_init (fun vs H Q E h => ?_) (fun cdv A outer s H vs Q E hr h => ?_)
  · obtain ⟨a, dx, n, rfl, _⟩ := h
    rfl
  · obtain ⟨a, dx, n, rfl, ha, k⟩ := h
    refine ⟨_, (pss_one (ps_fld (pv 0) (pv 1) rfl)), ?_⟩
    refine at_start (ρ' := [some _, some _]) rfl ?_
    walk_at "z0"
    refine s_sFld ?_
    walk_at "z"
    exact ⟨a, T.C_Toll, dx, [], rfl, ha, T.cls_Toll, T.na_Toll_halves, by decide, k⟩
theorem bd_c_Toll_init_0 (T : Tx K mg w) : ∃ ds, Vals [] ds ∧ Binds K T.d_c_Toll_init ["self", "halves"] ds :=
  T.F_c_Toll_init.binds1 2 1 (by simp) rfl fun _ _ _ _ _ _ _ us its hu hi => match us, its, hu, hi with | [_, _], [_], _, _ => ⟨_, rfl, rfl⟩
theorem bd_c_Toll_init_1 (T : Tx K mg w) : ∃ ds, Vals [.int 0] ds ∧ Binds K T.d_c_Toll_init ["self", "halves"] ds :=
  T.F_c_Toll_init.binds1 1 0 (by simp) rfl fun _ _ _ _ _ _ _ us its hu hi => match us, its, hu, hi with | [_], [_], _, _ => ⟨_, rfl, rfl⟩
theorem kb_c_Toll_init_halves (T : Tx K mg w) : ∃ its : List Value, KBn K T.d_c_Toll_init ["self", "halves"] 1 ["halves"] (fun us ws => us ++ ws) (fun vs zs => vs ++ zs) :=
  T.F_c_Toll_init.kbindsD 1 ["halves"] (fun us _ ws => us ++ ws) (by simp) (fun h1 _ h3 => h1.append h3) fun _ _ _ _ _ _ _ us its ws hu hi hw => match us, its, ws, hu, hi, hw with | [_], [_], [_], _, _, _ => ⟨_, rfl, rfl⟩
def spEqT (K : PySem.W.Frag) (C : Addr) : Sp := fun vs H Q _ => ∃ (a : Addr) (y : V) (n : Int), vs = [.ref a, y] ∧ TollAt C H a n ∧
  ((∃ (b : Addr) (m : Int), y = .ref b ∧ TollAt C H b m ∧ ∀ H', Ex H H' → Q (.bl (decide (n = m))) H') ∨ (∃ kd, TyX K H y (.type kd) ∧ PySem.W.kitOne K (.type kd) (.ref C) = some false ∧ ∀ H', Ex H H' → Q (.bl false) H'))
def RlT (C : Addr) (a b : Addr) (H : Hp) (r : Bool) : Prop := ∃ n m : Int, TollAt C H a n ∧ TollAt C H b m ∧ r = decide (n = m)
theorem hsp_Toll {C : Addr} {E : XK} : ∀ a b H r, RlT C a b H r → ∀ Q : VK, (∀ H', Ex H H' → Q (.bl r) H') → spEqT K C [.ref a, .ref b] H Q E := fun a b H r h Q k => by
  obtain ⟨n, m, ha, hb, rfl⟩ := h
  exact ⟨a, _, n, rfl, ha, .inl ⟨b, m, rfl, hb, k⟩⟩
theorem s_isO {x : V} {t : Value} {C : Addr} {b : Bool} {H : Hp} {Q : VK} (ty : TyX K H x t) (e : PySem.W.kitOne K t (.ref C) = some b) (k : Q (.bl b) H) : rIsi K [x, .ref C] H Q := ⟨x, .ref C, t, .ref C, b, rfl, .own C, ty, e, k⟩
theorem sc_c_Toll_eq : FnScope ["self", "other"] ["self", "other"] (defScope s_c_Toll_eq) :=
  ⟨rfl, rfl, rfl, by decide +kernel, rfl, by decide +kernel, by decide +kernel⟩
theorem ok_c_Toll_eq (T : Tx K mg w) : FnOk P w K mg base CX0 1 T.f_c_Toll_eq T.d_c_Toll_eq ["self", "other"] (spEqT K T.C_Toll) := by
  refine T.F_c_Toll_eq.ok sc_c_Toll_eq (fun vs H Q E h => ?_) (fun cdv A outer s H vs Q E hr h => ?_)
  · obtain ⟨a, y, n, rfl, _⟩ := h
    rfl
  · obtain ⟨a, y, n, rfl, ⟨dx, ha⟩, h⟩ := h
    refine ⟨_, (pss_one (ps_ret (pe_and (pe_callB (r := rIsi K) call_isi (by rfl) T.z_isinstance (by decide +kernel) (pa_cons (pv 1) (pa_cons (pe_glob (v := .ref T.C_Toll) rfl T.g_Toll rfl) pa_nil))) (pe_one (pe_cmpR op_eq (pe_fld (pv 0) rfl) (pe_fld (pv 1) rfl) (nomark _)))))), ?_⟩
    refine at_start (ρ' := [some _, some _]) rfl ?_
    walk_at "z0"
    walk_at "z"
    rcases h with ⟨b, m, rfl, ⟨dy, hb⟩, k⟩ | ⟨kd, ty, e, k⟩
    · refine s_isO (T.ty_Toll hb) T.ko_Toll ?_
      walk_at "z"
      refine ⟨a, T.C_Toll, dx, _, _, rfl, ha, T.cls_Toll, T.na_Toll_halves, rfl, ?_⟩
      walk_at "z"
      refine ⟨b, T.C_Toll, dy, _, _, rfl, hb, T.cls_Toll, T.na_Toll_halves, rfl, ?_⟩
      walk_at "z"
      exact k _ (by walk_at "zex")
    · refine s_isO ty e ?_
      walk_at "z"
      exact k _ (by walk_at "zex")
theorem use_eqT {H : Hp} {Q : VK} {E : XK} {C a b : Addr} {n m : Int} (ty : ∀ {H : Hp} {a dx : Addr} {fs : List (Str × V)}, H a = some (.ins C dx fs) → TyX K H (.ref a) (.ref C)) (nf : PySem.W.notFirst K C (.ref C) = true) (ha : TollAt C H a n) (hb : TollAt C H b m)
    (k : ∀ H', Ex H H' → Q (.bl (decide (n = m))) H') : rEqO K C (spEqT K C) E (.ref a) (.ref b) H Q := by
  obtain ⟨d1, h1⟩ := id ha
  obtain ⟨d2, h2⟩ := id hb
  exact ⟨a, d1, _, _, rfl, h1, ty h2, nf, a, _, n, rfl, ha, .inl ⟨b, m, rfl, hb, k⟩⟩
theorem use_neT {H : Hp} {Q : VK} {E : XK} {C a b : Addr} {n m : Int} (ty : ∀ {H : Hp} {a dx : Addr} {fs : List (Str × V)}, H a = some (.ins C dx fs) → TyX K H (.ref a) (.ref C)) (nf : PySem.W.notFirst K C (.ref C) = true) (ha : TollAt C H a n) (hb : TollAt C H b m)
    (k : ∀ H', Ex H H' → Q (.bl (!decide (n = m))) H') : rNeO K C (spEqT K C) E (.ref a) (.ref b) H Q := by
  obtain ⟨d1, h1⟩ := id ha
  obtain ⟨d2, h2⟩ := id hb
  exact ⟨a, d1, _, _, rfl, h1, ty h2, nf, a, _, n, rfl, ha, .inl ⟨b, m, rfl, hb, fun H' e => ⟨_, rfl, k H' e⟩⟩⟩
def spTwo (C : Addr) (op : Int → Int → Int) : Sp := fun vs H Q _ => ∃ (a b : Addr) (n m : Int), vs = [.ref a, .ref b] ∧ TollAt C H a n ∧ TollAt C H b m ∧ ∀ r H', Ex H H' → TollAt C H' r (op n m) → Q (.ref r) H'
def spTimes (C : Addr) : Sp := fun vs H Q _ => ∃ (a : Addr) (n m : Int), vs = [.ref a, .int m] ∧ TollAt C H a n ∧ CMul n m ∧ ∀ r H', Ex H H' → TollAt C H' r (n * m) → Q (.ref r) H'
def spThird (C : Addr) : Sp := fun vs H Q _ => ∃ (a : Addr) (n : Int), vs = [.ref a] ∧ TollAt C H a n ∧ ∀ r H', Ex H H' → TollAt C H' r (n / 3) → Q (.ref r) H'
theorem sc_c_Toll_plus : FnScope ["self", "other"] ["self", "other"] (defScope s_c_Toll_plus) :=
  ⟨rfl, rfl, rfl, by decide +kernel, rfl, by decide +kernel, by decide +kernel⟩
theorem ok_c_Toll_plus (T : Tx K mg w) : FnOk P w K mg base CX0 3 T.f_c_Toll_plus T.d_c_Toll_plus ["self", "other"] (spTwo T.C_Toll (· + ·)) := by
  refine T.F_c_Toll_plus.ok sc_c_Toll_plus (fun vs H Q E h => ?_) (fun cdv A outer s H vs Q E hr h => ?_)
  · obtain ⟨a, b, n, m, rfl, _⟩ := h
    rfl
  · obtain ⟨a, b, n, m, rfl, ⟨d1, ha⟩, ⟨d2, hb⟩, k⟩ := h
    refine ⟨_, (pss_one (ps_ret (pe_make T.mk_Toll (ok_c_Toll_init T) (hr.mono (by decide)) rfl T.g_Toll (bd_c_Toll_init_0 T).choose_spec.2 (bd_c_Toll_init_0 T).choose_spec.1 pass0 (pa_cons (pe_op op_add (pe_fld (pv 0) rfl) (pe_fld (pv 1) rfl)) pa_nil)))), ?_⟩
    refine at_start (ρ' := [some _, some _]) rfl ?_
    walk_at "z0"
    walk_at "z"
    refine s_make ?_
    walk_at "z"
    refine ⟨a, T.C_Toll, d1, _, _, rfl, ha, T.cls_Toll, T.na_Toll_halves, rfl, ?_⟩
    walk_at "z"
    refine ⟨b, T.C_Toll, d2, _, _, rfl, hb, T.cls_Toll, T.na_Toll_halves, rfl, ?_⟩
    walk_at "z"
    exact use_init fun r H' _ e hr => k r H' e hr
theorem sc_c_Toll_times : FnScope ["self", "many"] ["self", "many"] (defScope s_c_Toll_times) :=
  ⟨rfl, rfl, rfl, by decide +kernel, rfl, by decide +kernel, by decide +kernel⟩
theorem ok_c_Toll_times (T : Tx K mg w) : FnOk P w K mg base CX0 3 T.f_c_Toll_times T.d_c_Toll_times ["self", "many"] (spTimes T.C_Toll) := by
  refine T.F_c_Toll_times.ok sc_c_Toll_times (fun vs H Q E h => ?_) (fun cdv A outer s H vs Q E hr h => ?_)
  · obtain ⟨a, n, m, rfl, _⟩ := h
    rfl
  · obtain ⟨a, n, m, rfl, ⟨d1, ha⟩, hc, k⟩ := h
    refine ⟨_, (pss_one (ps_ret (pe_make T.mk_Toll (ok_c_Toll_init T) (hr.mono (by decide)) rfl T.g_Toll (bd_c_Toll_init_0 T).choose_spec.2 (bd_c_Toll_init_0 T).choose_spec.1 pass0 (pa_cons (pe_op op_mul (pe_fld (pv 0) rfl) (pv 1)) pa_nil)))), ?_⟩
    refine at_start (ρ' := [some _, some _]) rfl ?_
    walk_at "z0"
    walk_at "z"
    refine s_make ?_
    walk_at "z"
    refine ⟨a, T.C_Toll, d1, _, _, rfl, ha, T.cls_Toll, T.na_Toll_halves, rfl, ?_⟩
    walk_at "z"
    exact use_init fun r H' _ e hr => k r H' e hr
theorem sc_c_Toll_third : FnScope ["self"] ["self"] (defScope s_c_Toll_third) :=
  ⟨rfl, rfl, rfl, by decide +kernel, rfl, by decide +kernel, by decide +kernel⟩
theorem ok_c_Toll_third (T : Tx K mg w) : FnOk P w K mg base CX0 3 T.f_c_Toll_third T.d_c_Toll_third ["self"] (spThird T.C_Toll) := by
  refine T.F_c_Toll_third.ok sc_c_Toll_third (fun vs H Q E h => ?_) (fun cdv A outer s H vs Q E hr h => ?_)
  · obtain ⟨a, n, rfl, _⟩ := h
    rfl
  · obtain ⟨a, n, rfl, ⟨d1, ha⟩, k⟩ := h
    refine ⟨_, (pss_one (ps_ret (pe_make T.mk_Toll (ok_c_Toll_init T) (hr.mono (by decide)) rfl T.g_Toll (bd_c_Toll_init_0 T).choose_spec.2 (bd_c_Toll_init_0 T).choose_spec.1 pass0 (pa_cons (pe_op op_fdiv (pe_fld (pv 0) rfl) pe_int) pa_nil)))), ?_⟩
    refine at_start (ρ' := [some _]) rfl ?_
    walk_at "z0"
    walk_at "z"
    refine s_make ?_
    walk_at "z"
    refine ⟨a, T.C_Toll, d1, _, _, rfl, ha, T.cls_Toll, T.na_Toll_halves, rfl, ?_⟩
    walk_at "z"
    exact use_init fun r H' _ e hr => k r H' e hr
/-- tolls of these counts -/
def TL (C : Addr) (H : Hp) (ts : List Addr) (ns : List Int) : Prop := ts.length = ns.length ∧ ∀ (i : Nat) t n, ts[i]? = some t → ns[i]? = some n → TollAt C H t n
theorem TL.ex {C : Addr} {H H' : Hp} {ts : List Addr} {ns : List Int} (h : TL C H ts ns) (e : Ex H H') : TL C H' ts ns := ⟨h.1, fun i t n h1 h2 => (h.2 i t n h1 h2).ex e⟩
def Begun (C : Addr) (H : Hp) (v : V) (b : Int) : Prop := (v = .non ∧ b = 0) ∨ ∃ p, v = .ref p ∧ TollAt C H p b
def spSum (K : PySem.W.Frag) (C : Addr) : Sp := fun vs H Q _ => ∃ (l : Addr) (v : V) (ts : List Addr) (ns : List Int) (b : Int), vs = [.ref l, v] ∧ SqL K H l (ts.map V.ref) ∧ TL C H ts ns ∧ Begun C H v b ∧ ∀ r H', Ex H H' → TollAt C H' r (ns.sum + b) → Q (.ref r) H'
theorem sum_take {ns : List Int} {i : Nat} {n : Int} (e : ns[i]? = some n) : (ns.take (i + 1)).sum = (ns.take i).sum + n := by
  rw [List.take_succ, e, List.sum_append]
  simp
theorem sc_p_summed : FnScope ["tolls", "start", "halves", "toll"] ["tolls", "start"] (defScope s_p_summed) :=
  ⟨rfl, rfl, rfl, by decide +kernel, rfl, by decide +kernel, by decide +kernel⟩
theorem ok_p_summed (T : Tx K mg w) : FnOk P w K mg base CX0 3 T.f_p_summed T.d_p_summed ["tolls", "start"] (spSum K T.C_Toll) := by
  refine T.F_p_summed.ok sc_p_summed (fun vs H Q E h => ?_) (fun cdv A outer s H vs Q E hr h => ?_)
  · obtain ⟨l, v, ts, ns, b, rfl, _⟩ := h
    rfl
  · obtain ⟨l, v, ts, ns, b, rfl, hl, ht, hb, k⟩ := h
    refine ⟨_, (pss_cons (ps_set (i := 2) sc_p_summed.nd rfl (Or.inl rfl) (pe_ifExp (pt_cmpR op_isN1 (pv 1) pe_non (nomark _)) pe_int (pe_fld (pv 1) rfl))) (pss_cons (ps_for (passes_of rfl) rfl (pi_list (pv 0)) (pg_name (i := 3) sc_p_summed.nd rfl (Or.inl rfl)) (pss_one (ps_set (i := 2) sc_p_summed.nd rfl (Or.inl rfl) (pe_op op_add (pv 2) (pe_fld (pv 3) rfl))))) (pss_one (ps_ret (pe_make T.mk_Toll (ok_c_Toll_init T) (hr.mono (by decide)) rfl T.g_Toll (bd_c_Toll_init_0 T).choose_spec.2 (bd_c_Toll_init_0 T).choose_spec.1 pass0 (pa_cons (pv 2) pa_nil)))))), ?_⟩
    refine at_start (ρ' := [some _, some _, none, none]) rfl ?_
    walk_at "z0"
    rcases hb with ⟨rfl, rfl⟩ | ⟨p, rfl, dp, hp⟩
    · walk_at "z"
      refine l_list (ts.map V.ref) (fun i σ H' => ∃ v3, σ = [some (.ref l), some .non, some (.int (0 + (ns.take i).sum)), v3] ∧ H' = H) ⟨_, rfl, rfl⟩ (fun i σ H' hi h => ?_) (fun i x σ H2 hi h => ?_) (fun σ H2 h => ?_)
      · obtain ⟨v3, rfl, rfl⟩ := h
        exact hl
      · obtain ⟨v3, rfl, rfl⟩ := h
        rw [List.getElem?_map] at hi
        obtain ⟨t, ei, rfl⟩ := Option.map_eq_some_iff.mp hi
        obtain ⟨n, en⟩ : ∃ n, ns[i]? = some n := ⟨_, List.getElem?_eq_getElem (by have := (List.getElem?_eq_some_iff.mp ei).1; have := ht.1; omega)⟩
        obtain ⟨dt, hdt⟩ := ht.2 i t n ei en
        walk_at "z"
        refine ⟨t, T.C_Toll, dt, _, _, rfl, hdt, T.cls_Toll, T.na_Toll_halves, rfl, ?_⟩
        walk_at "z"
        exact ⟨_, by rw [sum_take en, Int.add_assoc], rfl⟩
      · obtain ⟨v3, rfl, rfl⟩ := h
        walk_at "z"
        refine s_make ?_
        walk_at "z"
        rw [List.take_of_length_le (by rw [List.length_map, ht.1]; exact Nat.le_refl _)]
        exact use_init fun r H' _ e hr => k r H' e (by rw [Int.add_comm]; exact hr)
    · walk_at "z"
      refine ⟨p, T.C_Toll, dp, _, _, rfl, hp, T.cls_Toll, T.na_Toll_halves, rfl, ?_⟩
      walk_at "z"
      refine l_list (ts.map V.ref) (fun i σ H' => ∃ v3, σ = [some (.ref l), some (.ref p), some (.int (b + (ns.take i).sum)), v3] ∧ H' = H) ⟨_, by rw [List.take_zero, List.sum_nil, Int.add_zero], rfl⟩ (fun i σ H' hi h => ?_) (fun i x σ H2 hi h => ?_) (fun σ H2 h => ?_)
      · obtain ⟨v3, rfl, rfl⟩ := h
        exact hl
      · obtain ⟨v3, rfl, rfl⟩ := h
        rw [List.getElem?_map] at hi
        obtain ⟨t, ei, rfl⟩ := Option.map_eq_some_iff.mp hi
        obtain ⟨n, en⟩ : ∃ n, ns[i]? = some n := ⟨_, List.getElem?_eq_getElem (by have := (List.getElem?_eq_some_iff.mp ei).1; have := ht.1; omega)⟩
        obtain ⟨dt, hdt⟩ := ht.2 i t n ei en
        walk_at "z"
        refine ⟨t, T.C_Toll, dt, _, _, rfl, hdt, T.cls_Toll, T.na_Toll_halves, rfl, ?_⟩
        walk_at "z"
        exact ⟨_, by rw [sum_take en, Int.add_assoc], rfl⟩
      · obtain ⟨v3, rfl, rfl⟩ := h
        walk_at "z"
        refine s_make ?_
        walk_at "z"
        rw [List.take_of_length_le (by rw [List.length_map, ht.1]; exact Nat.le_refl _)]
        exact use_init fun r H' _ e hr => k r H' e (by rw [Int.add_comm]; exact hr)
theorem bd_c_Toll_times_0 (T : Tx K mg w) : ∃ ds, Vals [] ds ∧ Binds K T.d_c_Toll_times ["self", "many"] ds :=
  T.F_c_Toll_times.binds1 2 1 (by simp) rfl fun _ _ _ _ _ _ _ us its hu hi => match us, its, hu, hi with | [_, _], [_], _, _ => ⟨_, rfl, rfl⟩
theorem bd_c_Toll_times_1 (T : Tx K mg w) : ∃ ds, Vals [.int 2] ds ∧ Binds K T.d_c_Toll_times ["self", "many"] ds :=
  T.F_c_Toll_times.binds1 1 0 (by simp) rfl fun _ _ _ _ _ _ _ us its hu hi => match us, its, hu, hi with | [_], [_], _, _ => ⟨_, rfl, rfl⟩
theorem kb_c_Toll_times_many (T : Tx K mg w) : ∃ its : List Value, KBn K T.d_c_Toll_times ["self", "many"] 1 ["many"] (fun us ws => us ++ ws) (fun vs zs => vs ++ zs) :=
  T.F_c_Toll_times.kbindsD 1 ["many"] (fun us _ ws => us ++ ws) (by simp) (fun h1 _ h3 => h1.append h3) fun _ _ _ _ _ _ _ us its ws hu hi hw => match us, its, ws, hu, hi, hw with | [_], [_], [_], _, _, _ => ⟨_, rfl, rfl⟩
theorem bd_p_summed_0 (T : Tx K mg w) : ∃ ds, Vals [] ds ∧ Binds K T.d_p_summed ["tolls", "start"] ds :=
  T.F_p_summed.binds1 2 1 (by simp) rfl fun _ _ _ _ _ _ _ us its hu hi => match us, its, hu, hi with | [_, _], [_], _, _ => ⟨_, rfl, rfl⟩
theorem bd_p_summed_1 (T : Tx K mg w) : ∃ ds, Vals [.non] ds ∧ Binds K T.d_p_summed ["tolls", "start"] ds :=
  T.F_p_summed.binds1 1 0 (by simp) rfl fun _ _ _ _ _ _ _ us its hu hi => match us, its, hu, hi with | [_], [_], _, _ => ⟨_, rfl, rfl⟩
theorem kb_p_summed_1_start (T : Tx K mg w) : ∃ its : List Value, KBn K T.d_p_summed ["tolls", "start"] 1 ["start"] (fun us ws => us ++ ws) (fun vs zs => vs ++ zs) :=
  T.F_p_summed.kbindsD 1 ["start"] (fun us _ ws => us ++ ws) (by simp) (fun h1 _ h3 => h1.append h3) fun _ _ _ _ _ _ _ us its ws hu hi hw => match us, its, ws, hu, hi, hw with | [_], [_], [_], _, _, _ => ⟨_, rfl, rfl⟩
theorem kb_c_Toll_plus_other (T : Tx K mg w) : ∃ its : List Value, KBn K T.d_c_Toll_plus ["self", "other"] 1 ["other"] (fun us ws => us ++ ws) (fun vs zs => vs ++ zs) := by
  obtain ⟨⟨oc, od, kV, doc, pm, an, cdv, ct, osl, e, _, _⟩, _⟩ := T.F_c_Toll_plus
  refine ⟨[], ⟨fun s us ws _ h1 h2 => ?_, fun h1 h2 => h1.append h2⟩⟩
  rw [e]
  match us, ws, h1, h2 with
  | [_], [_], _, _ => exact .of_eq rfl

theorem TL.snoc {C : Addr} {H : Hp} {ts : List Addr} {ns : List Int} {t : Addr} {n : Int} (h : TL C H ts ns) (ht : TollAt C H t n) : TL C H (ts ++ [t]) (ns ++ [n]) := by
  refine ⟨by rw [List.length_append, List.length_append, h.1]; rfl, fun i a b h1 h2 => ?_⟩
  rw [List.getElem?_append] at h1 h2
  rw [h.1] at h1
  split at h1
  · rename_i q
    rw [if_pos q] at h2
    exact h.2 i a b h1 h2
  · rename_i q
    rw [if_neg q] at h2
    obtain ⟨z, rfl⟩ := List.getElem?_eq_some_iff.mp h1
    obtain ⟨z2, rfl⟩ := List.getElem?_eq_some_iff.mp h2
    simpa using ht
theorem TollAt.fr {C a b : Addr} {H H' : Hp} {n : Int} {xs : List V} (h : TollAt C H a n) (e : Fr b H H') (hb : H b = some (.lst xs)) : TollAt C H' a n := by
  obtain ⟨dx, h⟩ := h
  exact ⟨dx, e _ _ (ne_of h hb (fun z => by cases z)) h⟩
theorem TL.fr {C b : Addr} {H H' : Hp} {ts : List Addr} {ns : List Int} {xs : List V} (h : TL C H ts ns) (e : Fr b H H') (hb : H b = some (.lst xs)) : TL C H' ts ns := ⟨h.1, fun i t n h1 h2 => (h.2 i t n h1 h2).fr e hb⟩
theorem s_callN {n m : Nat} {sp : Sp} {gV : List V → List V → List V} {E : XK} {t tk : TA} {σ : L2.St} {H : Hp} {Q : VK} (k : t σ H fun vs H1 => tk σ H1 fun zs H2 => vs.length = n ∧ zs.length = m ∧ sp (gV vs zs) H2 Q E) : tCallN n m sp gV E t tk σ H Q := k
theorem use_sum {H : Hp} {Q : VK} {E : XK} {C l : Addr} {v : V} {ts : List Addr} {ns : List Int} {b : Int} (hl : SqL K H l (ts.map V.ref)) (ht : TL C H ts ns) (hb : Begun C H v b) (k : ∀ r H', Ex H H' → TollAt C H' r (ns.sum + b) → Q (.ref r) H') : spSum K C [.ref l, v] H Q E := ⟨l, v, ts, ns, b, rfl, hl, ht, hb, k⟩
theorem s_fldT {H : Hp} {R : V → Prop} {C a : Addr} {n : Int} (ha : TollAt C H a n) (c : Cls K C) (na : NoAttr K C "halves") (k : R (.int n)) : ∃ a' C' dx fs v, V.ref a = .ref a' ∧ H a' = some (.ins C' dx fs) ∧ Cls K C' ∧ NoAttr K C' "halves" ∧ fs.lookup ("halves" : Str) = some v ∧ R v := by
  obtain ⟨dx, h⟩ := ha
  exact ⟨a, C, dx, _, _, rfl, h, c, na, rfl, k⟩
theorem s_rSumL {H : Hp} {Q : VK} {p : Addr} {ns : List Int} (h : SqL K H p (ns.map V.int)) (k : Q (.int ns.sum) H) : rSum K [.ref p] H Q := ⟨p, ns, rfl, h, k⟩
def Lw2 (K : PySem.W.Frag) (C l tl hd : Addr) (ts : List Addr) (ns : List Int) (H : Hp) : Prop := H l = some (.lst (ns.map V.int)) ∧ H tl = some (.lst (ts.map V.ref)) ∧ H hd = some (.lst (ts.map V.ref)) ∧ TL C H ts ns
theorem Lw2.ex {C l tl hd : Addr} {ts : List Addr} {ns : List Int} {H H' : Hp} (h : Lw2 K C l tl hd ts ns H) (e : Ex H H') : Lw2 K C l tl hd ts ns H' := ⟨e _ _ h.1, e _ _ h.2.1, e _ _ h.2.2.1, h.2.2.2.ex e⟩
theorem dec_t {p : Prop} [d : Decidable p] (h : p) : decide p = true := decide_eq_true h
theorem use_neS {H : Hp} {Q : VK} {E : XK} {C a b : Addr} {n m : Int} (ty : ∀ {H : Hp} {a dx : Addr} {fs : List (Str × V)}, H a = some (.ins C dx fs) → TyX K H (.ref a) (.ref C)) (nf : PySem.W.notFirst K C (.ref C) = true) (ha : TollAt C H a n) (hb : TollAt C H b m) (e : n = m)
    (k : ∀ H', Ex H H' → Q (.bl false) H') : rNeO K C (spEqT K C) E (.ref a) (.ref b) H Q := by
  refine use_neT ty nf ha hb fun H' e1 => ?_
  rw [dec_t e]
  exact k H' e1
theorem s_iZipS {ta tk : TA} {σ : L2.St} {H : Hp} {R : It → Hp → Prop} (k : ta σ H fun vs H1 => tk σ H1 fun zs H2 => ∃ a b xs ys, vs = [.ref a, .ref b] ∧ zs = [.bl true] ∧ SqL K H2 a xs ∧ SqL K H2 b ys ∧ R (ItzS K a b) H2) : iZipS K ta tk σ H R := k
theorem s_onT {H : Hp} {C a : Addr} {n : Int} {m : Str} {R : Prop} (ha : TollAt C H a n) (hm : ∀ v : V, [(("halves" : Str), v)].lookup m = none) (k : R) : ∃ a' dx fs, V.ref a = .ref a' ∧ H a' = some (.ins C dx fs) ∧ fs.lookup m = none ∧ R := by
  obtain ⟨dx, h⟩ := ha
  exact ⟨a, dx, _, rfl, h, hm _, k⟩
theorem use_like1 {H : Hp} {Q : VK} {E : XK} {n m : Int} (e : n = m) (k : ∀ H', Ex H H' → Q (.bl true) H') : spLike K 1 ([.int n, .int m] ++ []) H Q E := by
  subst e
  exact ⟨_, _, _, rfl, .int _, .int _, trivial, k⟩
theorem prs_refs {H : Hp} : ∀ ts : List Addr, Prs (fun x y _ => (∃ a, x = V.ref a) ∧ y = x) (ts.map V.ref) (ts.map V.ref) H
  | [] => .nil
  | t :: ts => .cons ⟨⟨t, rfl⟩, rfl⟩ (prs_refs ts)
theorem sc_law : FnScope ["_law_script", "_law_bag_here", "_law_numbers", "_law_tolls", "_law_handed", "_law_begin", "_law_how_often", "_law_one", "_law_number", "_law_toll", "_law_turn"] ["_law_script"] (defScope s_law) :=
  ⟨rfl, rfl, rfl, by decide +kernel, rfl, by decide +kernel, by decide +kernel⟩
theorem ok_law (T : Tx K mg w) {f : Addr} {fd : FuncData} (F : Fun K "law" "law" s_law f fd) : FnOk P w K mg base CX0 7 f fd ["_law_script"] (spLaw K) := by
  refine F.ok sc_law (fun vs H Q E h => ?_) (fun cdv A outer s H vs Q E hr h => ?_)
  · obtain ⟨a, ns, rfl, _⟩ := h
    rfl
  · obtain ⟨a, ns, rfl, hS, hl, k⟩ := h
    refine ⟨_, (pss_cons (ps_set (i := 1) sc_law.nd rfl (Or.inr rfl) (pe_call (ok_l_bag T) (hr.mono (by decide)) rfl T.g_l_bag T.F_l_bag.kp T.b_l_bag .nil pass0 (pa_cons (pv 0) pa_nil))) (pss_cons (ps_setLc (i := 2) (own := [("_law_turn", 10)]) (by rfl) sc_law.nd rfl rfl (sw_true rfl rfl rfl (by decide +kernel)) (pi_range1 (by rfl) T.z_range (pa_cons (pe_call (ok_l_pull T) (hr.mono (by decide)) rfl T.g_l_pull T.F_l_pull.kp T.b_l_pull .nil pass0 (pa_cons (pv 1) (pa_cons pe_int pa_nil))) pa_nil)) (blkOk_by (own := [("_law_turn", 10)]) (N := ["_law_script", "_law_bag_here", "_law_numbers", "_law_tolls", "_law_handed", "_law_begin", "_law_how_often", "_law_one", "_law_number", "_law_toll", "_law_turn"]) (sc := defScope s_law) (by decide +kernel)) (fun _ _ _ _ _ => (pg_name (i := 10) sc_law.nd rfl (Or.inl rfl))) (fun _ _ _ _ _ => pts_nil) (fun _ _ _ _ _ => (pe_ix (r := rIxL K) ix_list (pe_lst (pa_cons (pe_op op_sub (pe_call (ok_l_pull T) (hr.mono (by decide)) rfl T.g_l_pull T.F_l_pull.kp T.b_l_pull .nil pass0 (pa_cons (pv 1) (pa_cons pe_int pa_nil))) pe_int) (pa_cons (pe_call (ok_l_far T) (hr.mono (by decide)) rfl T.g_l_far T.F_l_far.kp T.b_l_far .nil pass0 (pa_cons (pv 1) pa_nil)) pa_nil))) (pe_call (ok_l_pull T) (hr.mono (by decide)) rfl T.g_l_pull T.F_l_pull.kp T.b_l_pull .nil pass0 (pa_cons (pv 1) (pa_cons pe_int pa_nil))) (fun _ _ => rfl)))) (pss_cons (ps_setLc (i := 3) (own := [("_law_number", 8)]) (by rfl) sc_law.nd rfl rfl (sw_true rfl rfl rfl (by decide +kernel)) (pi_list (pv 2)) (blkOk_by (own := [("_law_number", 8)]) (N := ["_law_script", "_law_bag_here", "_law_numbers", "_law_tolls", "_law_handed", "_law_begin", "_law_how_often", "_law_one", "_law_number", "_law_toll", "_law_turn"]) (sc := defScope s_law) (by decide +kernel)) (fun _ _ _ _ _ => (pg_name (i := 8) sc_law.nd rfl (Or.inl rfl))) (fun _ _ _ _ _ => pts_nil) (fun _ _ _ _ _ => (pe_make T.mk_Toll (ok_c_Toll_init T) (hr.mono (by decide)) rfl T.g_Toll (bd_c_Toll_init_0 T).choose_spec.2 (bd_c_Toll_init_0 T).choose_spec.1 pass0 (pa_cons (pv 8) pa_nil)))) (pss_cons (ps_set (i := 4) sc_law.nd rfl (Or.inl rfl) (pe_callTy (r := rListOf K) cz_listOf (by rfl) T.z_list (by decide +kernel) (pa_cons (pv 3) pa_nil))) (pss_cons (ps_set (i := 5) sc_law.nd rfl (Or.inl rfl) (pe_call (ok_l_far T) (hr.mono (by decide)) rfl T.g_l_far T.F_l_far.kp T.b_l_far .nil pass0 (pa_cons (pv 1) pa_nil))) (pss_cons (ps_set (i := 6) sc_law.nd rfl (Or.inl rfl) (pe_op op_sub (pe_call (ok_l_pull T) (hr.mono (by decide)) rfl T.g_l_pull T.F_l_pull.kp T.b_l_pull .nil pass0 (pa_cons (pv 1) (pa_cons pe_int pa_nil))) pe_int)) (pss_cons (ps_if (PW.pt (pw_or (pt_cmpR (op_neO (ok_c_Toll_eq T) (hr.mono (by decide)) T.b_c_Toll_eq pass0 T.own_Toll) (pe_call (ok_p_summed T) (hr.mono (by decide)) rfl T.g_p_summed T.F_p_summed.kp (bd_p_summed_1 T).choose_spec.2 (bd_p_summed_1 T).choose_spec.1 pass0 (pa_cons (pv 4) pa_nil)) (pe_make T.mk_Toll (ok_c_Toll_init T) (hr.mono (by decide)) rfl T.g_Toll (bd_c_Toll_init_0 T).choose_spec.2 (bd_c_Toll_init_0 T).choose_spec.1 pass0 (pa_cons (pe_callB (r := rSum K) (cr_sum rfl) (by rfl) T.z_sum (by decide +kernel) (pa_cons (pv 2) pa_nil)) pa_nil)) (nomark _)) (pw_or1 (pt_cmpR (op_neO (ok_c_Toll_eq T) (hr.mono (by decide)) T.b_c_Toll_eq pass0 T.own_Toll) (pe_call (ok_p_summed T) (hr.mono (by decide)) rfl T.g_p_summed T.F_p_summed.kp (bd_p_summed_0 T).choose_spec.2 (bd_p_summed_0 T).choose_spec.1 pass0 (pa_cons (pv 4) (pa_cons pe_non pa_nil))) (pe_make T.mk_Toll (ok_c_Toll_init T) (hr.mono (by decide)) rfl T.g_Toll (bd_c_Toll_init_0 T).choose_spec.2 (bd_c_Toll_init_0 T).choose_spec.1 pass0 (pa_cons (pe_callB (r := rSum K) (cr_sum rfl) (by rfl) T.z_sum (by decide +kernel) (pa_cons (pv 2) pa_nil)) pa_nil)) (nomark _))))) (pss_one (ps_ret pe_bl)) pss_nil) (pss_cons (ps_if (PW.pt (pw_or (pt_cmpR (op_neO (ok_c_Toll_eq T) (hr.mono (by decide)) T.b_c_Toll_eq pass0 T.own_Toll) (pe_callN (ok_p_summed T) (hr.mono (by decide)) rfl T.g_p_summed T.F_p_summed.kp (kb_p_summed_1_start T).choose_spec pass0 (pa_cons (pv 4) pa_nil) (pk_cons (pe_make T.mk_Toll (ok_c_Toll_init T) (hr.mono (by decide)) rfl T.g_Toll (bd_c_Toll_init_0 T).choose_spec.2 (bd_c_Toll_init_0 T).choose_spec.1 pass0 (pa_cons (pv 5) pa_nil)) pk_nil)) (pe_make T.mk_Toll (ok_c_Toll_init T) (hr.mono (by decide)) rfl T.g_Toll (bd_c_Toll_init_0 T).choose_spec.2 (bd_c_Toll_init_0 T).choose_spec.1 pass0 (pa_cons (pe_op op_add (pe_callB (r := rSum K) (cr_sum rfl) (by rfl) T.z_sum (by decide +kernel) (pa_cons (pv 2) pa_nil)) (pv 5)) pa_nil)) (nomark _)) (pw_or1 (pt_cmpR op_ne (pe_fld (pe_call (ok_p_summed T) (hr.mono (by decide)) rfl T.g_p_summed T.F_p_summed.kp (bd_p_summed_0 T).choose_spec.2 (bd_p_summed_0 T).choose_spec.1 pass0 (pa_cons (pe_lst pa_nil) (pa_cons (pe_make T.mk_Toll (ok_c_Toll_init T) (hr.mono (by decide)) rfl T.g_Toll (bd_c_Toll_init_0 T).choose_spec.2 (bd_c_Toll_init_0 T).choose_spec.1 pass0 (pa_cons (pv 5) pa_nil)) pa_nil))) rfl) (pv 5) (nomark _))))) (pss_one (ps_ret pe_bl)) pss_nil) (pss_cons (ps_set (i := 7) sc_law.nd rfl (Or.inl rfl) (pe_make T.mk_Toll (ok_c_Toll_init T) (hr.mono (by decide)) rfl T.g_Toll (bd_c_Toll_init_0 T).choose_spec.2 (bd_c_Toll_init_0 T).choose_spec.1 pass0 (pa_cons (pv 5) pa_nil))) (pss_cons (ps_for PassesOwn.never rfl (pi_zipS (by rfl) T.z_zip (pa_cons (pv 2) (pa_cons (pv 3) pa_nil)) (pk_cons pe_bl pk_nil)) (pg_tup (by rfl) (pgs_cons (pg_name (i := 8) sc_law.nd rfl (Or.inl rfl)) (pgs_cons (pg_name (i := 9) sc_law.nd rfl (Or.inl rfl)) pgs_nil))) (pss_cons (ps_if (PW.pt (pw_or (pt_not (pt_val (pe_call (ok_l_like T 1) (hr.mono (by decide)) rfl T.g_l_like T.F_l_like.kp T.b_l_like .nil pass0 (pa_cons (pe_fld (pe_meth (pv 7) T.cls_Toll ⟨T.at_c_Toll_plus, T.fn_c_Toll_plus, T.F_c_Toll_plus.kp⟩ (ok_c_Toll_plus T) (hr.mono (by decide)) T.b_c_Toll_plus .nil pass0 (pa_cons (pv 9) pa_nil)) rfl) (pa_cons (pe_op op_add (pv 5) (pv 8)) pa_nil))))) (pw_or1 (pt_cmpR (op_neO (ok_c_Toll_eq T) (hr.mono (by decide)) T.b_c_Toll_eq pass0 T.own_Toll) (pe_methKw (pv 9) T.cls_Toll ⟨T.at_c_Toll_plus, T.fn_c_Toll_plus, T.F_c_Toll_plus.kp⟩ (ok_c_Toll_plus T) (hr.mono (by decide)) (kb_c_Toll_plus_other T).choose_spec pass0 (pk_cons (pv 7) pk_nil)) (pe_make T.mk_Toll (ok_c_Toll_init T) (hr.mono (by decide)) rfl T.g_Toll (bd_c_Toll_init_0 T).choose_spec.2 (bd_c_Toll_init_0 T).choose_spec.1 pass0 (pa_cons (pe_op op_add (pv 5) (pv 8)) pa_nil)) (nomark _))))) (pss_one (ps_ret pe_bl)) pss_nil) (pss_cons (ps_if (PW.pt (pw_or (pt_not (pt_val (pe_call (ok_l_like T 1) (hr.mono (by decide)) rfl T.g_l_like T.F_l_like.kp T.b_l_like .nil pass0 (pa_cons (pe_fld (pe_meth (pv 9) T.cls_Toll ⟨T.at_c_Toll_times, T.fn_c_Toll_times, T.F_c_Toll_times.kp⟩ (ok_c_Toll_times T) (hr.mono (by decide)) (bd_c_Toll_times_0 T).choose_spec.2 (bd_c_Toll_times_0 T).choose_spec.1 pass0 (pa_cons (pv 6) pa_nil)) rfl) (pa_cons (pe_op op_mul (pv 8) (pv 6)) pa_nil))))) (pw_or1 (pt_cmpR (op_neO (ok_c_Toll_eq T) (hr.mono (by decide)) T.b_c_Toll_eq pass0 T.own_Toll) (pe_meth0 (pv 9) T.cls_Toll ⟨T.at_c_Toll_times, T.fn_c_Toll_times, T.F_c_Toll_times.kp⟩ (ok_c_Toll_times T) (hr.mono (by decide)) (bd_c_Toll_times_1 T).choose_spec.2 (bd_c_Toll_times_1 T).choose_spec.1 pass0) (pe_make T.mk_Toll (ok_c_Toll_init T) (hr.mono (by decide)) rfl T.g_Toll (bd_c_Toll_init_0 T).choose_spec.2 (bd_c_Toll_init_0 T).choose_spec.1 pass0 (pa_cons (pe_op op_mul pe_int (pv 8)) pa_nil)) (nomark _))))) (pss_one (ps_ret pe_bl)) pss_nil) (pss_cons (ps_if (PW.pt (pw_or (pt_cmpR (op_neO (ok_c_Toll_eq T) (hr.mono (by decide)) T.b_c_Toll_eq pass0 T.own_Toll) (pe_methKw (pv 9) T.cls_Toll ⟨T.at_c_Toll_times, T.fn_c_Toll_times, T.F_c_Toll_times.kp⟩ (ok_c_Toll_times T) (hr.mono (by decide)) (kb_c_Toll_times_many T).choose_spec pass0 (pk_cons pe_int pk_nil)) (pe_make0 T.mk_Toll (ok_c_Toll_init T) (hr.mono (by decide)) rfl T.g_Toll (bd_c_Toll_init_1 T).choose_spec.2 (bd_c_Toll_init_1 T).choose_spec.1 pass0) (nomark _)) (pw_or1 (pt_not (pt_val (pe_call (ok_l_like T 1) (hr.mono (by decide)) rfl T.g_l_like T.F_l_like.kp T.b_l_like .nil pass0 (pa_cons (pe_fld (pe_meth0 (pv 9) T.cls_Toll ⟨T.at_c_Toll_third, T.fn_c_Toll_third, T.F_c_Toll_third.kp⟩ (ok_c_Toll_third T) (hr.mono (by decide)) T.b_c_Toll_third .nil pass0) rfl) (pa_cons (pe_op op_fdiv (pv 8) pe_int) pa_nil)))))))) (pss_one (ps_ret pe_bl)) pss_nil) (pss_one (ps_if (PW.pt (pw_or (pt_cmpR op_ne (pe_fld (pv 9) rfl) (pv 8) (nomark _)) (pw_or1 (pt_cmpR op_ne (pe_fld (pv 7) rfl) (pv 5) (nomark _))))) (pss_one (ps_ret pe_bl)) pss_nil)))))) (pss_one (ps_ret (pe_and (pe_cmpR (op_eqSame (hr.mono (by decide))) (pv 4) (pv 3) (nomark _)) (pe_one (pe_cmpR op_eq (pe_callB (r := Z.rLen K) cz_len (by rfl) T.z_len PySem.boot_len (pa_cons (pv 4) pa_nil)) (pe_callB (r := Z.rLen K) cz_len (by rfl) T.z_len PySem.boot_len (pa_cons (pv 2) pa_nil)) (nomark _)))))))))))))))), ?_⟩
    refine at_start (ρ' := [some _, none, none, none, none, none, none, none, none, none, none]) rfl ?_
    walk_at "z0"
    walk_at "z"
    refine ⟨a, ns, rfl, hS, hl, fun b c H1 nb nc e1 B => ?_⟩
    clear hS hl ns
    walk_at "z"
    rename_i q H2 q0 q1 B2 f2
    refine c_range (by omega) (fun D H' => D ≠ b ∧ D ≠ c ∧ Bag H' b c) (fun D i l H' => ∃ ms : List Int, l = ms.map V.int ∧ ∀ m ∈ ms, IntIn (-(2 ^ 70)) (2 ^ 70) (.int m)) (fun D H' n e _ => ⟨⟨B2.neb n, B2.nec n, B2.ext e⟩, [], rfl, fun m hm => by cases hm⟩) (fun D i l H3 hi Iv hz hn r => ?_) (fun D l H3 Iv hz hn r => ?_)
    · obtain ⟨nb, nc, B3⟩ := Iv
      obtain ⟨ms, rfl, hms⟩ := r
      walk_at "z"
      refine ⟨rfl, ?_⟩
      walk_at "z"
      refine s_ixP (IntIn (-(2 ^ 70)) (2 ^ 70)) (by walk_at "zsq") ⟨by assumption, by assumption⟩ (by walk_at "zin") fun v ⟨n, e, hv⟩ => ?_
      subst e
      refine c_put (l := ms.map V.int) (by walk_at "zhp") (by omega) fun H7 f7 _ => ⟨⟨nb, nc, by
        refine Bag.frs ?_ nb nc f7
        walk_at "zbag"⟩, ms ++ [n], by rw [List.map_append]; rfl, fun m hm => ?_⟩
      rcases List.mem_append.mp hm with hm | hm
      · exact hms m hm
      · rw [List.mem_singleton.mp hm]
        exact ⟨n, rfl, hv⟩
    · obtain ⟨nDb, nDc, B3⟩ := Iv
      obtain ⟨ns, rfl, hms⟩ := r
      walk_at "z"
      refine c_list (ns.map V.int) (SqL.of hz) (fun D' H' => D' ≠ b ∧ D' ≠ c ∧ D' ≠ D ∧ Bag H' b c ∧ H' D = some (.lst (ns.map V.int))) (fun D' i l H' => ∃ ts, l = ts.map V.ref ∧ TL T.C_Toll H' ts (ns.take i)) (fun D' H' n e _ => ⟨⟨B3.neb n, B3.nec n, (ne_of_none hz n).symm, B3.ext e, e _ _ hz⟩, [], rfl, rfl, fun i t n h => by simp at h⟩)
        (fun D' H' Iv => SqL.of Iv.2.2.2.2) (fun D' i l H4 x hx Iv hl hn r => ?_) (fun D' l H4 Iv hl hn r => ?_)
      · obtain ⟨n1, n2, n3, B4, hD⟩ := Iv
        obtain ⟨ts, rfl, ht⟩ := r
        rw [List.getElem?_map] at hx
        obtain ⟨n, en, rfl⟩ := Option.map_eq_some_iff.mp hx
        walk_at "z"
        refine ⟨rfl, ?_⟩
        walk_at "z"
        refine s_make ?_
        walk_at "z"
        refine use_init fun t H5 _ e5 ht5 => ?_
        refine c_put (l := ts.map V.ref) (e5 _ _ hl) ⟨hn, by have := (List.getElem?_eq_some_iff.mp en).1; rw [List.length_map] at *; omega⟩ fun H6 f6 _ => ⟨⟨n1, n2, n3, (B4.ext e5).frs n1 n2 f6, f6 _ _ n3.symm (e5 _ _ hD)⟩, ts ++ [t], by rw [List.map_append]; rfl, ?_⟩
        rw [List.take_succ, en]
        exact ((ht.ex e5).snoc ht5).fr f6 (e5 _ _ hl)
      · obtain ⟨n1, n2, n3, B4, hD⟩ := Iv
        obtain ⟨ts, rfl, ht⟩ := r
        rw [List.length_map, List.take_length] at ht
        walk_at "z"
        rename_i hd5 H5 n5 e5 h5 bg H6 bg0 bg1 B6 f6 ho H7 ho0 ho1 B7 f7
        obtain ⟨ys, hb5⟩ := (B4.ext e5).getb
        obtain ⟨ys6, hb6⟩ := B6.getb
        have hdb : hd5 ≠ b := B4.neb n5
        have W : Lw2 K T.C_Toll D D' hd5 ts ns H7 := ⟨f7 _ _ nDb (f6 _ _ nDb (e5 _ _ hD)), f7 _ _ n1 (f6 _ _ n1 (e5 _ _ hl)), f7 _ _ hdb (f6 _ _ hdb h5), ((ht.ex e5).fr f6 hb5).fr f7 hb6⟩
        clear B6 B7 f6 f7 h5 e5 n5 hl hD ht B4 hz B3 B2 f2 B e1
        refine use_sum (SqL.of W.2.2.1) W.2.2.2 (.inl ⟨rfl, rfl⟩) fun r1 H8 e8 hr1 => ?_
        replace W := W.ex e8
        walk_at "z"
        refine s_make ?_
        walk_at "z"
        refine s_rSumL (SqL.of W.1) ?_
        walk_at "z"
        refine use_init fun r2 H9 _ e9 hr2 => ?_
        replace W := W.ex e9
        walk_at "z"
        refine use_neS T.ty_Toll T.nf_Toll (hr1.ex e9) hr2 (Int.add_zero _) fun H10 e10 => ?_
        replace W := W.ex e10
        walk_at "z"
        refine use_sum (SqL.of W.2.2.1) W.2.2.2 (.inl ⟨rfl, rfl⟩) fun r1 H8 e8 hr1 => ?_
        replace W := W.ex e8
        walk_at "z"
        refine s_make ?_
        walk_at "z"
        refine s_rSumL (SqL.of W.1) ?_
        walk_at "z"
        refine use_init fun r2 H9 _ e9 hr2 => ?_
        replace W := W.ex e9
        walk_at "z"
        refine use_neS T.ty_Toll T.nf_Toll (hr1.ex e9) hr2 (Int.add_zero _) fun H10 e10 => ?_
        replace W := W.ex e10
        walk_at "z"
        refine s_callN ?_
        walk_at "z"
        refine s_make ?_
        walk_at "z"
        refine use_init fun r0 H9 _ e9 hr0 => ?_
        replace W := W.ex e9
        walk_at "z"
        refine ⟨rfl, rfl, use_sum (SqL.of W.2.2.1) W.2.2.2 (.inr ⟨r0, rfl, hr0⟩) fun r1 H8 e8 hr1 => ?_⟩
        replace W := W.ex e8
        walk_at "z"
        refine s_make ?_
        walk_at "z"
        refine s_rSumL (SqL.of W.1) ?_
        walk_at "z"
        refine use_init fun r2 H9 _ e9 hr2 => ?_
        replace W := W.ex e9
        walk_at "z"
        refine use_neS T.ty_Toll T.nf_Toll (hr1.ex e9) hr2 rfl fun H10 e10 => ?_
        replace W := W.ex e10
        walk_at "z"
        rename_i l0 H11 _ e11 hl0
        replace W := W.ex e11
        refine s_make ?_
        walk_at "z"
        refine use_init fun r0 H9 _ e9 hr0 => ?_
        replace W := W.ex e9
        walk_at "z"
        refine use_sum (ts := []) (ns := []) (SqL.of (e9 _ _ hl0)) ⟨rfl, fun i t n h => by simp at h⟩ (.inr ⟨r0, rfl, hr0⟩) fun r1 H8 e8 hr1 => ?_
        replace W := W.ex e8
        walk_at "z"
        refine s_fldT hr1 T.cls_Toll T.na_Toll_halves ?_
        walk_at "z"
        refine ite_nneg (by simp) ?_
        walk_at "z"
        refine s_make ?_
        walk_at "z"
        refine use_init fun r H9 _ e9 hr => ?_
        replace W := W.ex e9
        walk_at "z"
        refine s_iZipS ?_
        walk_at "z"
        refine ⟨D, D', ns.map V.int, ts.map V.ref, rfl, rfl, SqL.of W.1, SqL.of W.2.1, ?_⟩
        have elen : ts.length = ns.length := W.2.2.2.1
        refine l_zipS (ns.map V.int) (ts.map V.ref) (by rw [List.length_map, List.length_map, elen]) (fun i σ H' => ∃ v8 v9, σ = [some (.ref a), some (.ref b), some (.ref D), some (.ref D'), some (.ref hd5), some (.int bg), some (.int (ho - 6)), some (.ref r), v8, v9, none] ∧ Lw2 K T.C_Toll D D' hd5 ts ns H' ∧ TollAt T.C_Toll H' r bg)
          ⟨_, _, rfl, W, hr⟩ (fun i σ H' _ h => ?_) (fun i x y t σ HA HB hx hy h _ eAB ht => ?_) (fun σ HA h => ?_)
        · obtain ⟨v8, v9, rfl, W, _⟩ := h
          exact ⟨SqL.of W.1, SqL.of W.2.1⟩
        · obtain ⟨v8, v9, rfl, W, hr⟩ := h
          rw [List.getElem?_map] at hx hy
          obtain ⟨n, en, rfl⟩ := Option.map_eq_some_iff.mp hx
          obtain ⟨p, ep, rfl⟩ := Option.map_eq_some_iff.mp hy
          have hp := W.2.2.2.2 i p n ep en
          obtain ⟨_, en2, hn1, hn2⟩ := hms n (List.mem_of_getElem? en)
          injection en2 with en2
          subst en2
          replace W := W.ex eAB
          replace hr := hr.ex eAB
          replace hp := hp.ex eAB
          walk_at "z"
          refine s_meth ?_
          walk_at "z"
          refine s_onT hr (fun _ => rfl) ?_
          walk_at "z"
          refine ⟨_, _, _, _, rfl, hr, hp, fun q1 H12 e12 hq1 => ?_⟩
          walk_at "z"
          refine s_fldT hq1 T.cls_Toll T.na_Toll_halves ?_
          walk_at "z"
          refine use_like1 rfl fun H13 e13 => ?_
          replace W := (W.ex e12).ex e13
          replace hr := (hr.ex e12).ex e13
          replace hp := (hp.ex e12).ex e13
          clear e12 e13 hq1
          walk_at "z"
          refine s_methKw ?_
          walk_at "z"
          refine s_onT hp (fun _ => rfl) ?_
          walk_at "z"
          refine ⟨rfl, _, _, _, _, rfl, hp, hr, fun q1 H12 e12 hq1 => ?_⟩
          walk_at "z"
          refine s_make ?_
          walk_at "z"
          refine use_init fun q2 H13 _ e13 hq2 => ?_
          walk_at "z"
          refine use_neS T.ty_Toll T.nf_Toll (hq1.ex e13) hq2 (Int.add_comm _ _) fun H14 e14 => ?_
          replace W := ((W.ex e12).ex e13).ex e14
          replace hr := ((hr.ex e12).ex e13).ex e14
          replace hp := ((hp.ex e12).ex e13).ex e14
          clear e12 e13 e14 hq1 hq2
          walk_at "z"
          refine s_meth ?_
          walk_at "z"
          refine s_onT hp (fun _ => rfl) ?_
          walk_at "z"
          refine ⟨_, _, _, rfl, hp, .inr ⟨by omega, by omega⟩, fun q1 H12 e12 hq1 => ?_⟩
          walk_at "z"
          refine s_fldT hq1 T.cls_Toll T.na_Toll_halves ?_
          walk_at "z"
          refine use_like1 rfl fun H13 e13 => ?_
          replace W := (W.ex e12).ex e13
          replace hr := (hr.ex e12).ex e13
          replace hp := (hp.ex e12).ex e13
          clear e12 e13 hq1
          walk_at "z"
          refine s_meth ?_
          walk_at "z"
          refine s_onT hp (fun _ => rfl) ?_
          walk_at "z"
          refine ⟨_, _, _, rfl, hp, .inr ⟨by omega, by omega⟩, fun q1 H12 e12 hq1 => ?_⟩
          walk_at "z"
          refine s_make ?_
          walk_at "z"
          refine use_init fun q2 H13 _ e13 hq2 => ?_
          walk_at "z"
          refine use_neS T.ty_Toll T.nf_Toll (hq1.ex e13) hq2 (Int.mul_comm _ _) fun H14 e14 => ?_
          replace W := ((W.ex e12).ex e13).ex e14
          replace hr := ((hr.ex e12).ex e13).ex e14
          replace hp := ((hp.ex e12).ex e13).ex e14
          clear e12 e13 e14 hq1 hq2
          walk_at "z"
          refine s_methKw ?_
          walk_at "z"
          refine s_onT hp (fun _ => rfl) ?_
          walk_at "z"
          refine ⟨rfl, _, _, _, rfl, hp, .inr ⟨by omega, by omega⟩, fun q1 H12 e12 hq1 => ?_⟩
          walk_at "z"
          refine s_make ?_
          walk_at "z"
          refine use_init fun q2 H13 _ e13 hq2 => ?_
          walk_at "z"
          refine use_neS T.ty_Toll T.nf_Toll (hq1.ex e13) hq2 (Int.mul_zero _) fun H14 e14 => ?_
          replace W := ((W.ex e12).ex e13).ex e14
          replace hr := ((hr.ex e12).ex e13).ex e14
          replace hp := ((hp.ex e12).ex e13).ex e14
          clear e12 e13 e14 hq1 hq2
          walk_at "z"
          refine s_meth ?_
          walk_at "z"
          refine s_onT hp (fun _ => rfl) ?_
          walk_at "z"
          refine ⟨_, _, rfl, hp, fun q1 H12 e12 hq1 => ?_⟩
          walk_at "z"
          refine s_fldT hq1 T.cls_Toll T.na_Toll_halves ?_
          walk_at "z"
          refine use_like1 rfl fun H13 e13 => ?_
          replace W := (W.ex e12).ex e13
          replace hr := (hr.ex e12).ex e13
          replace hp := (hp.ex e12).ex e13
          clear e12 e13 hq1
          walk_at "z"
          refine s_fldT hp T.cls_Toll T.na_Toll_halves ?_
          walk_at "z"
          refine ite_nneg rfl ?_
          walk_at "z"
          refine s_fldT hr T.cls_Toll T.na_Toll_halves ?_
          walk_at "z"
          refine ite_nneg rfl ?_
          walk_at "z"
          exact ⟨_, _, rfl, W, hr⟩
        · obtain ⟨v8, v9, rfl, W, hr⟩ := h
          walk_at "z"
          refine ⟨⟨hd5, D', _, _, rfl, rfl, W.2.2.1, W.2.1, prs_refs ts⟩, fun HC eC => ?_⟩
          replace W := W.ex eC
          walk_at "z"
          refine s_rLen (.inl (SqL.of W.2.2.1)) ?_
          walk_at "z"
          refine s_rLen (.inl (SqL.of W.1)) ?_
          walk_at "z"
          rw [List.length_map, List.length_map, elen]
          exact ev_blT (by simp) (k _)

end
theorem all_mk {l : PySem.W.OpenLaw} {w : World} {K : PySem.W.Frag} {h : Heap} {mg : Str → Option Value} {fa f0 f1 f2 f3 f4 fL : Addr} (X : K.In h) (G : h.Ns mainGlobals mg) (hfa : mg "law" = some (.ref fa))
    {od0 an0 od1 an1 od2 an2 od3 an3 od4 an4 odL anL : Option Addr} {sl0 sl1 sl2 sl3 sl4 slL : Array (Option Value)} {oc0 kV0 dc0 pm0 cd0 ct0 oc1 kV1 dc1 pm1 cd1 ct1 oc2 kV2 dc2 pm2 cd2 ct2 oc3 kV3 dc3 pm3 cd3 ct3 oc4 kV4 dc4 pm4 cd4 ct4 ocL kVL dcL pmL cdL ctL : Value}
    {dT0 : Addr} {doc0 : Value} {dod0 : Option Addr} {dn0 : Nat} {dsl0 : Array (Option Value)}
    {C_Toll : Addr}
    {f_c_Toll_init : Addr} {od_c_Toll_init an_c_Toll_init : Option Addr} {sl_c_Toll_init : Array (Option Value)} {oc_c_Toll_init kV_c_Toll_init dc_c_Toll_init pm_c_Toll_init cd_c_Toll_init ct_c_Toll_init : Value}
    {dT_c_Toll_init : Addr} {doc_c_Toll_init : Value} {dod_c_Toll_init : Option Addr} {dn_c_Toll_init : Nat} {dsl_c_Toll_init : Array (Option Value)} {dk0_c_Toll_init : Tok}
    {f_c_Toll_eq : Addr} {od_c_Toll_eq an_c_Toll_eq : Option Addr} {sl_c_Toll_eq : Array (Option Value)} {oc_c_Toll_eq kV_c_Toll_eq dc_c_Toll_eq pm_c_Toll_eq cd_c_Toll_eq ct_c_Toll_eq : Value}
    {f_c_Toll_plus : Addr} {od_c_Toll_plus an_c_Toll_plus : Option Addr} {sl_c_Toll_plus : Array (Option Value)} {oc_c_Toll_plus kV_c_Toll_plus dc_c_Toll_plus pm_c_Toll_plus cd_c_Toll_plus ct_c_Toll_plus : Value}
    {f_c_Toll_times : Addr} {od_c_Toll_times an_c_Toll_times : Option Addr} {sl_c_Toll_times : Array (Option Value)} {oc_c_Toll_times kV_c_Toll_times dc_c_Toll_times pm_c_Toll_times cd_c_Toll_times ct_c_Toll_times : Value}
    {dT_c_Toll_times : Addr} {doc_c_Toll_times : Value} {dod_c_Toll_times : Option Addr} {dn_c_Toll_times : Nat} {dsl_c_Toll_times : Array (Option Value)} {dk0_c_Toll_times : Tok}
    {f_c_Toll_third : Addr} {od_c_Toll_third an_c_Toll_third : Option Addr} {sl_c_Toll_third : Array (Option Value)} {oc_c_Toll_third kV_c_Toll_third dc_c_Toll_third pm_c_Toll_third cd_c_Toll_third ct_c_Toll_third : Value}
    (a0 : PySem.W.nsIn K mainGlobals "summed" = some (some (.ref f0)))
    (l0 : K.lookup f0 = some ⟨oc0, od0, .func (PySem.W.fnOf "summed" "summed" (defArgs s_p_summed) (defBody s_p_summed) (defScope s_p_summed) (.ref dT0) kV0 dc0 pm0 an0 cd0 ct0), sl0⟩)
    (dl0 : K.lookup dT0 = some ⟨doc0, dod0, .seq #[.none] dn0, dsl0⟩)
    (c0 : PySem.W.codeIn K cd0 "summed" = true) (k0 : PySem.W.keepIn K (.ref f0) = true)
    (a1 : PySem.W.nsIn K mainGlobals "_law_bag" = some (some (.ref f1)))
    (l1 : K.lookup f1 = some ⟨oc1, od1, .func (PySem.W.fnOf "_law_bag" "_law_bag" (defArgs s_l_bag) (defBody s_l_bag) (defScope s_l_bag) .none kV1 dc1 pm1 an1 cd1 ct1), sl1⟩)
    (c1 : PySem.W.codeIn K cd1 "_law_bag" = true) (k1 : PySem.W.keepIn K (.ref f1) = true)
    (a2 : PySem.W.nsIn K mainGlobals "_law_pull" = some (some (.ref f2)))
    (l2 : K.lookup f2 = some ⟨oc2, od2, .func (PySem.W.fnOf "_law_pull" "_law_pull" (defArgs s_l_pull) (defBody s_l_pull) (defScope s_l_pull) .none kV2 dc2 pm2 an2 cd2 ct2), sl2⟩)
    (c2 : PySem.W.codeIn K cd2 "_law_pull" = true) (k2 : PySem.W.keepIn K (.ref f2) = true)
    (a3 : PySem.W.nsIn K mainGlobals "_law_like" = some (some (.ref f3)))
    (l3 : K.lookup f3 = some ⟨oc3, od3, .func (PySem.W.fnOf "_law_like" "_law_like" (defArgs s_l_like) (defBody s_l_like) (defScope s_l_like) .none kV3 dc3 pm3 an3 cd3 ct3), sl3⟩)
    (c3 : PySem.W.codeIn K cd3 "_law_like" = true) (k3 : PySem.W.keepIn K (.ref f3) = true)
    (a4 : PySem.W.nsIn K mainGlobals "_law_far" = some (some (.ref f4)))
    (l4 : K.lookup f4 = some ⟨oc4, od4, .func (PySem.W.fnOf "_law_far" "_law_far" (defArgs s_l_far) (defBody s_l_far) (defScope s_l_far) .none kV4 dc4 pm4 an4 cd4 ct4), sl4⟩)
    (c4 : PySem.W.codeIn K cd4 "_law_far" = true) (k4 : PySem.W.keepIn K (.ref f4) = true)
    (aL : PySem.W.nsIn K mainGlobals "law" = some (some (.ref fL)))
    (lL : K.lookup fL = some ⟨ocL, odL, .func (PySem.W.fnOf "law" "law" (defArgs s_law) (defBody s_law) (defScope s_law) .none kVL dcL pmL anL cdL ctL), slL⟩)
    (cL : PySem.W.codeIn K cdL "law" = true) (kL : PySem.W.keepIn K (.ref fL) = true)
    (z_len : PySem.W.nsIn K mainGlobals "len" = some none)
    (z_isinstance : PySem.W.nsIn K mainGlobals "isinstance" = some none)
    (z_tuple : PySem.W.nsIn K mainGlobals "tuple" = some none)
    (z_list : PySem.W.nsIn K mainGlobals "list" = some none)
    (z_bool : PySem.W.nsIn K mainGlobals "bool" = some none)
    (z_range : PySem.W.nsIn K mainGlobals "range" = some none)
    (z_all : PySem.W.nsIn K mainGlobals "all" = some none)
    (z_sum : PySem.W.nsIn K mainGlobals "sum" = some none)
    (z_zip : PySem.W.nsIn K mainGlobals "zip" = some none)
    (z_int : PySem.W.nsIn K mainGlobals "int" = some none)
    (a_Toll : PySem.W.nsIn K mainGlobals "Toll" = some (some (.ref C_Toll)))
    (pg_Toll : PySem.W.plainGet K C_Toll Str.empty = true)
    (hd_Toll : PySem.W.hasDictIn K C_Toll = true)
    (po_Toll : PySem.W.plainOver K C_Toll = true)
    (sa_Toll : PySem.W.findIn K (.ref C_Toll) "__setattr__" = some (some (.builtin "object.__setattr__")))
    (kp_Toll : PySem.W.keepIn K (.ref C_Toll) = true)
    (mki_Toll : PySem.W.makesIn K C_Toll = true)
    (ob_Toll : PySem.W.mroIn K C_Toll (.type "object") = some true)
    (ic_Toll : PySem.W.isClsIn K C_Toll = true)
    (tm_Toll : PySem.W.typeIn K (.ref C_Toll) = some (.type "type"))
    (nfo_Toll : PySem.W.notFirst K C_Toll (.ref C_Toll) = true)
    (clo_Toll : PySem.W.findIn K (.ref C_Toll) "__class__" = some (some (.builtin "object.__class__")))
    (gto_Toll : PySem.W.specialIn K (.builtin "object.__class__") "__get__" = some (some (.builtin "getset_descriptor.__get__")))
    (tko_Toll : PySem.W.takesIn K (.builtin "object.__class__") = some true)
    (neo_Toll : PySem.W.findIn K (.ref C_Toll) "__ne__" = some (some (.builtin "object.__ne__")))
    (na_Toll_halves : PySem.W.findIn K (.ref C_Toll) "halves" = some none)
    (si_Toll_int : PySem.W.subIn K (.type "int") (.ref C_Toll) = some false)
    (nfk_Toll_int : PySem.W.notFirst K C_Toll (.type "int") = true)
    (si_Toll_str : PySem.W.subIn K (.type "str") (.ref C_Toll) = some false)
    (nfk_Toll_str : PySem.W.notFirst K C_Toll (.type "str") = true)
    (si_Toll_list : PySem.W.subIn K (.type "list") (.ref C_Toll) = some false)
    (nfk_Toll_list : PySem.W.notFirst K C_Toll (.type "list") = true)
    (at_c_Toll_init : PySem.W.findIn K (.ref C_Toll) "__init__" = some (some (.ref f_c_Toll_init)))
    (fn_c_Toll_init : PySem.W.isFn K (.ref f_c_Toll_init) = true)
    (lk_c_Toll_init : K.lookup f_c_Toll_init = some ⟨oc_c_Toll_init, od_c_Toll_init, .func (PySem.W.fnOf "__init__" "Toll.__init__" (defArgs s_c_Toll_init) (defBody s_c_Toll_init) (defScope s_c_Toll_init) (.ref dT_c_Toll_init) kV_c_Toll_init dc_c_Toll_init pm_c_Toll_init an_c_Toll_init cd_c_Toll_init ct_c_Toll_init), sl_c_Toll_init⟩)
    (cd_ok_c_Toll_init : PySem.W.codeIn K cd_c_Toll_init "Toll.__init__" = true)
    (kf_c_Toll_init : PySem.W.keepIn K (.ref f_c_Toll_init) = true)
    (dl_c_Toll_init : K.lookup dT_c_Toll_init = some ⟨doc_c_Toll_init, dod_c_Toll_init, .seq #[.int 0 dk0_c_Toll_init] dn_c_Toll_init, dsl_c_Toll_init⟩)
    (at_c_Toll_eq : PySem.W.findIn K (.ref C_Toll) "__eq__" = some (some (.ref f_c_Toll_eq)))
    (fn_c_Toll_eq : PySem.W.isFn K (.ref f_c_Toll_eq) = true)
    (lk_c_Toll_eq : K.lookup f_c_Toll_eq = some ⟨oc_c_Toll_eq, od_c_Toll_eq, .func (PySem.W.fnOf "__eq__" "Toll.__eq__" (defArgs s_c_Toll_eq) (defBody s_c_Toll_eq) (defScope s_c_Toll_eq) .none kV_c_Toll_eq dc_c_Toll_eq pm_c_Toll_eq an_c_Toll_eq cd_c_Toll_eq ct_c_Toll_eq), sl_c_Toll_eq⟩)
    (cd_ok_c_Toll_eq : PySem.W.codeIn K cd_c_Toll_eq "Toll.__eq__" = true)
    (kf_c_Toll_eq : PySem.W.keepIn K (.ref f_c_Toll_eq) = true)
    (at_c_Toll_plus : PySem.W.findIn K (.ref C_Toll) "plus" = some (some (.ref f_c_Toll_plus)))
    (fn_c_Toll_plus : PySem.W.isFn K (.ref f_c_Toll_plus) = true)
    (lk_c_Toll_plus : K.lookup f_c_Toll_plus = some ⟨oc_c_Toll_plus, od_c_Toll_plus, .func (PySem.W.fnOf "plus" "Toll.plus" (defArgs s_c_Toll_plus) (defBody s_c_Toll_plus) (defScope s_c_Toll_plus) .none kV_c_Toll_plus dc_c_Toll_plus pm_c_Toll_plus an_c_Toll_plus cd_c_Toll_plus ct_c_Toll_plus), sl_c_Toll_plus⟩)
    (cd_ok_c_Toll_plus : PySem.W.codeIn K cd_c_Toll_plus "Toll.plus" = true)
    (kf_c_Toll_plus : PySem.W.keepIn K (.ref f_c_Toll_plus) = true)
    (at_c_Toll_times : PySem.W.findIn K (.ref C_Toll) "times" = some (some (.ref f_c_Toll_times)))
    (fn_c_Toll_times : PySem.W.isFn K (.ref f_c_Toll_times) = true)
    (lk_c_Toll_times : K.lookup f_c_Toll_times = some ⟨oc_c_Toll_times, od_c_Toll_times, .func (PySem.W.fnOf "times" "Toll.times" (defArgs s_c_Toll_times) (defBody s_c_Toll_times) (defScope s_c_Toll_times) (.ref dT_c_Toll_times) kV_c_Toll_times dc_c_Toll_times pm_c_Toll_times an_c_Toll_times cd_c_Toll_times ct_c_Toll_times), sl_c_Toll_times⟩)
    (cd_ok_c_Toll_times : PySem.W.codeIn K cd_c_Toll_times "Toll.times" = true)
    (kf_c_Toll_times : PySem.W.keepIn K (.ref f_c_Toll_times) = true)
    (dl_c_Toll_times : K.lookup dT_c_Toll_times = some ⟨doc_c_Toll_times, dod_c_Toll_times, .seq #[.int 2 dk0_c_Toll_times] dn_c_Toll_times, dsl_c_Toll_times⟩)
    (at_c_Toll_third : PySem.W.findIn K (.ref C_Toll) "third" = some (some (.ref f_c_Toll_third)))
    (fn_c_Toll_third : PySem.W.isFn K (.ref f_c_Toll_third) = true)
    (lk_c_Toll_third : K.lookup f_c_Toll_third = some ⟨oc_c_Toll_third, od_c_Toll_third, .func (PySem.W.fnOf "third" "Toll.third" (defArgs s_c_Toll_third) (defBody s_c_Toll_third) (defScope s_c_Toll_third) .none kV_c_Toll_third dc_c_Toll_third pm_c_Toll_third an_c_Toll_third cd_c_Toll_third ct_c_Toll_third), sl_c_Toll_third⟩)
    (cd_ok_c_Toll_third : PySem.W.codeIn K cd_c_Toll_third "Toll.third" = true)
    (kf_c_Toll_third : PySem.W.keepIn K (.ref f_c_Toll_third) = true)
    : ∃ fd : FuncData, (∀ (s : Shared) (v : Value), BindsTo s fd ⟨[v], []⟩ [("_law_script", v)]) ∧ ∀ base : Heap, K.In base → base.Ns mainGlobals mg → FnOk l.prog w K mg base CX0 7 fa fd ["_law_script"] (spLaw K) := by
  have e := hfa.symm.trans (PySem.W.mg_of X G aL)
  cases e
  have F1 := fun_mk (st := s_l_bag) l1 c1 k1
  have b1 := F1.binds (ps := ["_law_script"]) fun _ _ _ _ _ _ us hl => match us, hl with | [_], _ => rfl
  have F2 := fun_mk (st := s_l_pull) l2 c2 k2
  have b2 := F2.binds (ps := ["_law_bag_here", "_law_amount"]) fun _ _ _ _ _ _ us hl => match us, hl with | [_, _], _ => rfl
  have F3 := fun_mk (st := s_l_like) l3 c3 k3
  have b3 := F3.binds (ps := ["_law_found", "_law_due"]) fun _ _ _ _ _ _ us hl => match us, hl with | [_, _], _ => rfl
  have F4 := fun_mk (st := s_l_far) l4 c4 k4
  have b4 := F4.binds (ps := ["_law_bag_here"]) fun _ _ _ _ _ _ us hl => match us, hl with | [_], _ => rfl
  have F_c_Toll_eq := fun_mk (st := s_c_Toll_eq) lk_c_Toll_eq cd_ok_c_Toll_eq kf_c_Toll_eq
  have b_c_Toll_eq := F_c_Toll_eq.binds (ps := ["self", "other"]) fun _ _ _ _ _ _ us hl => match us, hl with | [_, _], _ => rfl
  have F_c_Toll_plus := fun_mk (st := s_c_Toll_plus) lk_c_Toll_plus cd_ok_c_Toll_plus kf_c_Toll_plus
  have b_c_Toll_plus := F_c_Toll_plus.binds (ps := ["self", "other"]) fun _ _ _ _ _ _ us hl => match us, hl with | [_, _], _ => rfl
  have F_c_Toll_third := fun_mk (st := s_c_Toll_third) lk_c_Toll_third cd_ok_c_Toll_third kf_c_Toll_third
  have b_c_Toll_third := F_c_Toll_third.binds (ps := ["self"]) fun _ _ _ _ _ _ us hl => match us, hl with | [_], _ => rfl
  have T : Tx K mg w := {
    f_p_summed := _, d_p_summed := _, g_p_summed := PySem.W.mg_of X G a0, F_p_summed := ⟨⟨_, _, _, _, _, _, _, _, _, _, rfl, l0, c0, .inr ⟨by simp, _, _, [.none], _, rfl, dl0, rfl, (.cons rfl .nil)⟩, .inl rfl⟩, k0⟩,
    f_l_bag := _, d_l_bag := _, F_l_bag := F1, g_l_bag := PySem.W.mg_of X G a1, b_l_bag := b1,
    f_l_pull := _, d_l_pull := _, F_l_pull := F2, g_l_pull := PySem.W.mg_of X G a2, b_l_pull := b2,
    f_l_like := _, d_l_like := _, F_l_like := F3, g_l_like := PySem.W.mg_of X G a3, b_l_like := b3,
    f_l_far := _, d_l_far := _, F_l_far := F4, g_l_far := PySem.W.mg_of X G a4, b_l_far := b4,
    z_len := PySem.W.mg_none_of X G z_len,
    z_isinstance := PySem.W.mg_none_of X G z_isinstance,
    z_tuple := PySem.W.mg_none_of X G z_tuple,
    z_list := PySem.W.mg_none_of X G z_list,
    z_bool := PySem.W.mg_none_of X G z_bool,
    z_range := PySem.W.mg_none_of X G z_range,
    z_all := PySem.W.mg_none_of X G z_all,
    z_sum := PySem.W.mg_none_of X G z_sum,
    z_zip := PySem.W.mg_none_of X G z_zip,
    z_int := PySem.W.mg_none_of X G z_int,
    C_Toll := _, g_Toll := PySem.W.mg_of X G a_Toll, cls_Toll := ⟨pg_Toll, hd_Toll, po_Toll, sa_Toll⟩,
    f_c_Toll_init := _, d_c_Toll_init := _, F_c_Toll_init := ⟨⟨_, _, _, _, _, _, _, _, _, _, rfl, lk_c_Toll_init, cd_ok_c_Toll_init, .inr ⟨by simp, _, _, [.int 0 _], _, rfl, dl_c_Toll_init, rfl, (.cons ⟨_, rfl⟩ .nil)⟩, .inl rfl⟩, kf_c_Toll_init⟩,
    at_c_Toll_init := at_c_Toll_init, fn_c_Toll_init := fn_c_Toll_init,
    mk_Toll := ⟨mki_Toll, at_c_Toll_init, fn_c_Toll_init, kp_Toll⟩,
    f_c_Toll_eq := _, d_c_Toll_eq := _, F_c_Toll_eq := F_c_Toll_eq, b_c_Toll_eq := b_c_Toll_eq,
    at_c_Toll_eq := at_c_Toll_eq, fn_c_Toll_eq := fn_c_Toll_eq,
    own_Toll := ⟨at_c_Toll_eq, fn_c_Toll_eq, neo_Toll, ob_Toll⟩,
    f_c_Toll_plus := _, d_c_Toll_plus := _, F_c_Toll_plus := F_c_Toll_plus, b_c_Toll_plus := b_c_Toll_plus,
    at_c_Toll_plus := at_c_Toll_plus, fn_c_Toll_plus := fn_c_Toll_plus,
    f_c_Toll_times := _, d_c_Toll_times := _, F_c_Toll_times := ⟨⟨_, _, _, _, _, _, _, _, _, _, rfl, lk_c_Toll_times, cd_ok_c_Toll_times, .inr ⟨by simp, _, _, [.int 2 _], _, rfl, dl_c_Toll_times, rfl, (.cons ⟨_, rfl⟩ .nil)⟩, .inl rfl⟩, kf_c_Toll_times⟩,
    at_c_Toll_times := at_c_Toll_times, fn_c_Toll_times := fn_c_Toll_times,
    f_c_Toll_third := _, d_c_Toll_third := _, F_c_Toll_third := F_c_Toll_third, b_c_Toll_third := b_c_Toll_third,
    at_c_Toll_third := at_c_Toll_third, fn_c_Toll_third := fn_c_Toll_third,
    na_Toll_halves := na_Toll_halves,
    ty_Toll := fun e => .base (.ins e ⟨pg_Toll, hd_Toll, po_Toll, sa_Toll⟩ clo_Toll gto_Toll tko_Toll ob_Toll), ko_Toll := Z.kit_self, nf_Toll := nfo_Toll,
    ko_Toll_int := Z.kit_notown ic_Toll tm_Toll si_Toll_int, nf_Toll_int := nfk_Toll_int,
    ko_Toll_str := Z.kit_notown ic_Toll tm_Toll si_Toll_str, nf_Toll_str := nfk_Toll_str,
    ko_Toll_list := Z.kit_notown ic_Toll tm_Toll si_Toll_list, nf_Toll_list := nfk_Toll_list }
  exact ⟨_, fun s v => .of_eq rfl, fun base _ _ => ok_law T (fun_mk (st := s_law) lL cL kL)⟩
theorem walk {l : PySem.W.OpenLaw} {q : Program} {loose : List Str} {XP : (Str → Option Value) → Heap → Prop} {YP : World → Heap → Prop} {d : DefRec} {K : Params → PySem.W.Frag} (hn : l.most = some 63) (hdf : d.params.defaults = [])
    (hY : ∀ (w : World) (h : Heap), YP w h → (K w.params).In h)
    (F : ∀ (w : World) (mg : Str → Option Value) (fa : Addr) (h : Heap), (K w.params).In h → h.Ns mainGlobals mg → mg d.name = some (.ref fa) →
      ∃ fd : FuncData, (∀ (s : Shared) (u : Value), BindsTo s fd ⟨[u], []⟩ [("_law_script", u)]) ∧ ∀ base : Heap, (K w.params).In base → base.Ns mainGlobals mg → FnOk l.prog w (K w.params) mg base CX0 7 fa fd ["_law_script"] (spLaw (K w.params))) :
    PySem.W.WalkO q loose XP YP l.row.toRowW d [] (fun f vs => PySem.call f vs) :=
  L2.walk_of (n := 63) (k := 7) (x := "_law_script") (CX := fun _ => CX0) (sp := fun w => spLaw (K w.params)) hn (by decide) hdf ⟨rfl, by decide, by decide⟩ hY F (fun _ _ a ns hl _ hS => ⟨a, ns, rfl, hS, hl, fun _ => rfl⟩) fun _ _ _ _ _ z => z
end Q
open PySem PySem.W PyProof.Rows in
set_option maxRecDepth 100000 in
set_option maxHeartbeats 0 in
theorem PySem.Challenge.cw_pikeroll_k02_tolls_reckoned_holds : PySem.Challenge.rw_pikeroll_k02_tolls_reckoned.Holds := by
  w_on; o_law; k_head; (case hw => w_witness2)
  k_fill
  refine Q.walk (l := PySem.Challenge.rw_pikeroll_k02_tolls_reckoned) rfl rfl (fun w h Y => PySem.W.kIn_of Y) ?F
  case F =>
    intro w mg fa h KX G hmg
    refine' Q.all_mk KX G hmg ?dl0 ?a0 ?l0 ?c0 ?k0 ?a1 ?l1 ?c1 ?k1 ?a2 ?l2 ?c2 ?k2 ?a3 ?l3 ?c3 ?k3 ?a4 ?l4 ?c4 ?k4 ?aL ?lL ?cL ?kL ?z_len ?z_isinstance ?z_tuple ?z_list ?z_bool ?z_range ?z_all ?z_sum ?z_zip ?z_int ?a_Toll ?pg_Toll ?hd_Toll ?po_Toll ?sa_Toll ?kp_Toll ?mki_Toll ?ob_Toll ?ic_Toll ?tm_Toll ?nfo_Toll ?clo_Toll ?gto_Toll ?tko_Toll ?neo_Toll ?na_Toll_halves ?si_Toll_int ?nfk_Toll_int ?si_Toll_str ?nfk_Toll_str ?si_Toll_list ?nfk_Toll_list ?at_c_Toll_init ?fn_c_Toll_init ?lk_c_Toll_init ?cd_ok_c_Toll_init ?kf_c_Toll_init ?dl_c_Toll_init ?at_c_Toll_eq ?fn_c_Toll_eq ?lk_c_Toll_eq ?cd_ok_c_Toll_eq ?kf_c_Toll_eq ?at_c_Toll_plus ?fn_c_Toll_plus ?lk_c_Toll_plus ?cd_ok_c_Toll_plus ?kf_c_Toll_plus ?at_c_Toll_times ?fn_c_Toll_times ?lk_c_Toll_times ?cd_ok_c_Toll_times ?kf_c_Toll_times ?dl_c_Toll_times ?at_c_Toll_third ?fn_c_Toll_third ?lk_c_Toll_third ?cd_ok_c_Toll_third ?kf_c_Toll_third
    (case dl0 => k_is)
    (case a0 => k_is)
    (case l0 => k_is)
    (case c0 => k_is)
    (case k0 => k_is)
    (case a1 => k_is)
    (case l1 => k_is)
    (case c1 => k_is)
    (case k1 => k_is)
    (case a2 => k_is)
    (case l2 => k_is)
    (case c2 => k_is)
    (case k2 => k_is)
    (case a3 => k_is)
    (case l3 => k_is)
    (case c3 => k_is)
    (case k3 => k_is)
    (case a4 => k_is)
    (case l4 => k_is)
    (case c4 => k_is)
    (case k4 => k_is)
    (case aL => k_is)
    (case lL => k_is)
    (case cL => k_is)
    (case kL => k_is)
    (case z_len => k_is)
    (case z_isinstance => k_is)
    (case z_tuple => k_is)
    (case z_list => k_is)
    (case z_bool => k_is)
    (case z_range => k_is)
    (case z_all => k_is)
    (case z_sum => k_is)
    (case z_zip => k_is)
    (case z_int => k_is)
    (case a_Toll => k_is)
    (case pg_Toll => k_is)
    (case hd_Toll => k_is)
    (case po_Toll => k_is)
    (case sa_Toll => k_is)
    (case kp_Toll => k_is)
    (case mki_Toll => k_is)
    (case ob_Toll => k_is)
    (case ic_Toll => k_is)
    (case tm_Toll => k_is)
    (case nfo_Toll => k_is)
    (case clo_Toll => k_is)
    (case gto_Toll => k_is)
    (case tko_Toll => k_is)
    (case neo_Toll => k_is)
    (case na_Toll_halves => k_is)
    (case si_Toll_int => k_is)
    (case nfk_Toll_int => k_is)
    (case si_Toll_str => k_is)
    (case nfk_Toll_str => k_is)
    (case si_Toll_list => k_is)
    (case nfk_Toll_list => k_is)
    (case at_c_Toll_init => k_is)
    (case fn_c_Toll_init => k_is)
    (case lk_c_Toll_init => k_is)
    (case cd_ok_c_Toll_init => k_is)
    (case kf_c_Toll_init => k_is)
    (case dl_c_Toll_init => k_is)
    (case at_c_Toll_eq => k_is)
    (case fn_c_Toll_eq => k_is)
    (case lk_c_Toll_eq => k_is)
    (case cd_ok_c_Toll_eq => k_is)
    (case kf_c_Toll_eq => k_is)
    (case at_c_Toll_plus => k_is)
    (case fn_c_Toll_plus => k_is)
    (case lk_c_Toll_plus => k_is)
    (case cd_ok_c_Toll_plus => k_is)
    (case kf_c_Toll_plus => k_is)
    (case at_c_Toll_times => k_is)
    (case fn_c_Toll_times => k_is)
    (case lk_c_Toll_times => k_is)
    (case cd_ok_c_Toll_times => k_is)
    (case kf_c_Toll_times => k_is)
    (case dl_c_Toll_times => k_is)
    (case at_c_Toll_third => k_is)
    (case fn_c_Toll_third => k_is)
    (case lk_c_Toll_third => k_is)
    (case cd_ok_c_Toll_third => k_is)
    (case kf_c_Toll_third => k_is)
#print axioms PySem.Challenge.cw_pikeroll_k02_tolls_reckoned_holds
