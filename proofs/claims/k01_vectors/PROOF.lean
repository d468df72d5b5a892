import PyProof.Rows.All
import Wide.All
import OpenK.AllK
import Wide.FinOn
import KE.KStateDown
import HandS.ForMost
import HandS.Codes
import HandS.Defaults
import HandS.Flow
import HandS.Walk
import HandS.Wide
import HandS.IsInst
import HandS.Iter
import KE.GoesMore
import KE.GoesEnum
import KE.LtData
import KE.DataCmp
import HandS.WideBits
import HandS.RevRange
import HandS.TupLe
import HandS.TupAny
import HandS.Style
import HandS.Dict
import HandS.More
import KE.KDictPairs
import Lean
import HandS.Head0
import HandS.Head1
import HandS.Head2
import HandS.HeadEnd
import HandS.HeadHook1
import HandS.HeadHook2
import PySem.Challenge.RW_folderkin_k01_vectors
set_option Elab.async false
set_option linter.all false
set_option maxRecDepth 100000
set_option maxHeartbeats 4000000
namespace Vf
open PySem L2 PySem.Spec PyProof.Rows

/-- what is left of a loop, of a comprehension, behind what it walks -/
def ForB (J : It) (g : TG) (t : TS) (D : Ends) (σ : L2.St) (H1 : Hp) : Prop := ∃ W : Nat → Nat → L2.St → Hp → Prop, (∃ m, W 0 m σ H1) ∧ ∀ i m σ H, W i m σ H →
  (J.stop i H ∧ D.nx σ H) ∨ (J.go i H ∧ ∃ N : L2.St → Hp → Prop, (∀ σ' H', N σ' H' → ∃ m', m' < m ∧ W (i + 1) m' σ' H') ∧ ∀ x H', J.yld i H x H' → g x σ H' fun σ2 H2 => t { D with nx := N, ct := N, bk := D.nx } σ2 H2)
def LcB (J : It) (g : TG) (tt : TT) (te : TE) (vs : List Nat) (σ : L2.St) (D : Addr) (H1 : Hp) (Q : VK) : Prop := ∃ W : Nat → Nat → Hp → Prop, (∃ m, W 0 m (upd H1 D (.lst []))) ∧ ∀ i m H, W i m H →
  (J.stop i H ∧ Q (.ref D) H) ∨ (J.go i H ∧
    ∃ Nx : Hp → Prop, (∀ H', Nx H' → ∃ m', m' < m ∧ W (i + 1) m' H') ∧
    ∀ x H', J.yld i H x H' → g x (wipe σ vs) H' fun σ2 H2 => wipe σ2 vs = wipe σ vs ∧ tt σ2 H2 fun b H3 =>
    if b = true then te σ2 H3 fun y H4 => 
      ∃ acc, H4 D = some (.lst acc) ∧ acc.length < sizeLine ∧
      Nx (upd H4 D (.lst (acc ++ [y]))) else Nx H3)
section
variable {K : PySem.W.Frag} {g : TG} {t : TS} {D : Ends} {σ : L2.St} {H : Hp} {tt : TT} {te : TE} {vs : List Nat} {Q : VK} {Da : Addr}
/-- for c in z, a text: Pv by the signs gone -/
theorem for_str {z : Str} (Pv : List Nat → L2.St → Hp → Prop) (h0 : Pv [] σ H)
    (hs : ∀ (pre : List Nat) (c : Nat) (post : List Nat) σ H, z.cps.toList = pre ++ c :: post → Pv pre σ H → g (.str ⟨#[c]⟩) σ H fun σ2 H2 => t { D with nx := Pv (pre ++ [c]), ct := Pv (pre ++ [c]), bk := D.nx } σ2 H2)
    (hd : ∀ σ H, Pv z.cps.toList σ H → D.nx σ H) : ForB (Its z) g t D σ H := by
  refine for_it walk_str (fun i => Pv (z.cps.toList.take i)) (by simpa using h0) (fun _ _ _ _ _ => trivial) (fun i x σ H H' hi p y => ?_) (fun σ H p => ?_)
  · obtain ⟨e, c, hc, hx⟩ := y
    subst e hx
    have hc' : z.cps.toList[i]? = some c := by simpa using hc
    have hi' : i < z.cps.toList.length := by simpa using hi
    have e1 : z.cps.toList = z.cps.toList.take i ++ c :: z.cps.toList.drop (i + 1) := by
      have e2 := (List.getElem?_eq_some_iff.mp hc').2
      rw [← e2, List.getElem_cons_drop, List.take_append_drop]
    have e3 : z.cps.toList.take (i + 1) = z.cps.toList.take i ++ [c] := by
      rw [List.take_add_one, hc']; rfl
    rw [e3]
    exact hs _ c _ σ _ e1 p
  · refine hd σ H ?_
    have e : z.cps.toList.take z.cps.size = z.cps.toList := List.take_of_length_le (by simp)
    rw [← e]
    exact p
theorem lc_str {z : Str} (Pv : List Nat → Hp → Prop) (h0 : Pv [] (upd H Da (.lst [])))
    (hs : ∀ (pre : List Nat) (c : Nat) (post : List Nat) H, z.cps.toList = pre ++ c :: post → Pv pre H → g (.str ⟨#[c]⟩) (wipe σ vs) H fun σ2 H2 => wipe σ2 vs = wipe σ vs ∧ tt σ2 H2 fun b H3 =>
      if b = true then te σ2 H3 fun y H4 => ∃ acc, H4 Da = some (.lst acc) ∧ acc.length < sizeLine ∧ Pv (pre ++ [c]) (upd H4 Da (.lst (acc ++ [y]))) else Pv (pre ++ [c]) H3)
    (hd : ∀ H, Pv z.cps.toList H → Q (.ref Da) H) : LcB (Its z) g tt te vs σ Da H Q := by
  refine lc_it walk_str (fun i => Pv (z.cps.toList.take i)) (by simpa using h0) (fun _ _ _ _ => trivial) (fun i x H H' hi p y => ?_) (fun H p => ?_)
  · obtain ⟨e, c, hc, hx⟩ := y
    subst e hx
    have hc' : z.cps.toList[i]? = some c := by simpa using hc
    have e1 : z.cps.toList = z.cps.toList.take i ++ c :: z.cps.toList.drop (i + 1) := by
      have e2 := (List.getElem?_eq_some_iff.mp hc').2
      rw [← e2, List.getElem_cons_drop, List.take_append_drop]
    have e3 : z.cps.toList.take (i + 1) = z.cps.toList.take i ++ [c] := by
      rw [List.take_add_one, hc']; rfl
    rw [e3]
    exact hs _ c _ _ e1 p
  · refine hd H ?_
    have e : z.cps.toList.take z.cps.size = z.cps.toList := List.take_of_length_le (by simp)
    rw [← e]
    exact p
theorem for_rng {lo : Int} {n : Nat} (Pv : Nat → L2.St → Hp → Prop) (h0 : Pv 0 σ H)
    (hs : ∀ i σ H, i < n → Pv i σ H → g (.int (lo + i)) σ H fun σ2 H2 => t { D with nx := Pv (i + 1), ct := Pv (i + 1), bk := D.nx } σ2 H2) (hd : ∀ σ H, Pv n σ H → D.nx σ H) : ForB (Itr lo n) g t D σ H := for_range Pv h0 hs hd
theorem lc_rng {lo : Int} {n : Nat} (Pv : Nat → Hp → Prop) (h0 : Pv 0 (upd H Da (.lst [])))
    (hs : ∀ i H, i < n → Pv i H → g (.int (lo + i)) (wipe σ vs) H 
      fun σ2 H2 => wipe σ2 vs = wipe σ vs ∧ tt σ2 H2 fun b H3 =>
      if b = true then te σ2 H3 fun y H4 => ∃ acc, H4 Da = some (.lst acc) ∧ acc.length < sizeLine ∧ Pv (i + 1) (upd H4 Da (.lst (acc ++ [y]))) else Pv (i + 1) H3) (hd : ∀ H, Pv n H → Q (.ref Da) H) :
    LcB (Itr lo n) g tt te vs σ Da H Q := lc_range Pv h0 hs hd
/-- for x in xs, a list: Pv by what was taken -/
theorem for_lst {a : Addr} {xs : List V} (Pv : List V → L2.St → Hp → Prop) (h0 : Pv [] σ H) (hl : ∀ pre σ H, Pv pre σ H → SqL K H a xs)
    (hs : ∀ (pre : List V) (x : V) (post : List V) σ H, xs = pre ++ x :: post → Pv pre σ H → g x σ H fun σ2 H2 => t { D with nx := Pv (pre ++ [x]), ct := Pv (pre ++ [x]), bk := D.nx } σ2 H2)
    (hd : ∀ σ H, Pv xs σ H → D.nx σ H) : ForB (Itl K a) g t D σ H := by
  refine for_list (xs := xs) (fun i => Pv (xs.take i)) (by simpa using h0) (fun i σ H _ p => hl _ σ H p) (fun i x σ H hx p => ?_) (fun σ H p => ?_)
  · have e1 : xs = xs.take i ++ x :: xs.drop (i + 1) := by
      have e2 := (List.getElem?_eq_some_iff.mp hx).2
      rw [← e2, List.getElem_cons_drop, List.take_append_drop]
    have e3 : xs.take (i + 1) = xs.take i ++ [x] := by
      rw [List.take_add_one, hx]; rfl
    rw [e3]
    exact hs _ x _ σ H e1 p
  · rw [List.take_length] at p
    exact hd σ H p
theorem lc_lst {a : Addr} {xs : List V} (Pv : List V → Hp → Prop) (h0 : Pv [] (upd H Da (.lst []))) (hl : ∀ pre H, Pv pre H → SqL K H a xs)
    (hs : ∀ (pre : List V) (x : V) (post : List V) H, xs = pre ++ x :: post → Pv pre H → g x (wipe σ vs) H fun σ2 H2 => wipe σ2 vs = wipe σ vs ∧ tt σ2 H2 fun b H3 =>
      if b = true then te σ2 H3 fun y H4 => ∃ acc, H4 Da = some (.lst acc) ∧ acc.length < sizeLine ∧ Pv (pre ++ [x]) (upd H4 Da (.lst (acc ++ [y]))) else Pv (pre ++ [x]) H3)
    (hd : ∀ H, Pv xs H → Q (.ref Da) H) : LcB (Itl K a) g tt te vs σ Da H Q := by
  refine lc_list (xs := xs) (fun i => Pv (xs.take i)) (by simpa using h0) (fun i H _ p => hl _ H p) (fun i x H hx p => ?_) (fun H p => ?_)
  · have e1 : xs = xs.take i ++ x :: xs.drop (i + 1) := by
      have e2 := (List.getElem?_eq_some_iff.mp hx).2
      rw [← e2, List.getElem_cons_drop, List.take_append_drop]
    have e3 : xs.take (i + 1) = xs.take i ++ [x] := by
      rw [List.take_add_one, hx]; rfl
    rw [e3]
    exact hs _ x _ H e1 p
  · rw [List.take_length] at p
    exact hd H p
theorem for_tpl {a : Addr} {xs : List V} (Pv : List V → L2.St → Hp → Prop) (h0 : Pv [] σ H) (hl : ∀ pre σ H, Pv pre σ H → SqT K H a xs)
    (hs : ∀ (pre : List V) (x : V) (post : List V) σ H, xs = pre ++ x :: post → Pv pre σ H → g x σ H fun σ2 H2 => t { D with nx := Pv (pre ++ [x]), ct := Pv (pre ++ [x]), bk := D.nx } σ2 H2)
    (hd : ∀ σ H, Pv xs σ H → D.nx σ H) : ForB (Itt K a) g t D σ H := by
  refine for_tup (xs := xs) (fun i => Pv (xs.take i)) (by simpa using h0) (fun i σ H _ p => hl _ σ H p) (fun i x σ H hx p => ?_) (fun σ H p => ?_)
  · have e1 : xs = xs.take i ++ x :: xs.drop (i + 1) := by
      have e2 := (List.getElem?_eq_some_iff.mp hx).2
      rw [← e2, List.getElem_cons_drop, List.take_append_drop]
    have e3 : xs.take (i + 1) = xs.take i ++ [x] := by
      rw [List.take_add_one, hx]; rfl
    rw [e3]
    exact hs _ x _ σ H e1 p
  · rw [List.take_length] at p
    exact hd σ H p
end

/-! ### readings, one lemma a head -/
section
variable {σ : L2.St} {H : Hp} {Q : VK} {D : Ends} {te ta tb tx : TE} {tt tu : TT} {t u : TS} {as : TA} {r r' : R2} {x y v : V} {K : PySem.W.Frag}
theorem e_var {i : Nat} (h : σ[i]? = some (some v)) (q : Q v H) : tVar i σ H Q := ⟨v, h, q⟩
theorem e_c (q : Q v H) : tC v σ H Q := q
theorem e_op (q : ta σ H fun x H1 => tb σ H1 fun y H2 => r x y H2 Q) : tOp r ta tb σ H Q := q
theorem e_un {r : V → Hp → VK → Prop} (q : ta σ H fun x H1 => r x H1 Q) : tUn r ta σ H Q := q
theorem e_I0 {g : Int → Int → V} {i j : Int} (q : Q (g i j) H) : rI0 g (.int i) (.int j) H Q := ⟨i, j, rfl, rfl, q⟩
theorem e_I {C : Int → Int → Prop} {g : Int → Int → V} {i j : Int} (c : C i j) (q : Q (g i j) H) : rI C g (.int i) (.int j) H Q := ⟨i, j, rfl, rfl, c, q⟩
theorem e_U {g : Int → V} {i : Int} (q : Q (g i) H) : rU g (.int i) H Q := ⟨i, rfl, q⟩
theorem e_eq (s : scal x y = true) (q : Q (.bl (decide (x = y))) H) : rEq x y H Q := ⟨s, q⟩
theorem e_ne (s : scal x y = true) (q : Q (.bl (!decide (x = y))) H) : rNe x y H Q := ⟨s, q⟩
theorem e_eqI {i j : Int} (q : Q (.bl (decide (i = j))) H) : rEq (.int i) (.int j) H Q := ⟨rfl, by
  have e : decide (V.int i = V.int j) = decide (i = j) := by
    by_cases h : i = j
    · rw [h]; simp
    · rw [decide_eq_false h, decide_eq_false (fun z => h (V.int.inj z))]
  rw [e]; exact q⟩
theorem e_neI {i j : Int} (q : Q (.bl (!decide (i = j))) H) : rNe (.int i) (.int j) H Q := ⟨rfl, by
  have e : decide (V.int i = V.int j) = decide (i = j) := by
    by_cases h : i = j
    · rw [h]; simp
    · rw [decide_eq_false h, decide_eq_false (fun z => h (V.int.inj z))]
  rw [e]; exact q⟩
theorem e_eqS {i j : Str} (q : Q (.bl (decide (i = j))) H) : rEq (.str i) (.str j) H Q := ⟨rfl, by
  have e : decide (V.str i = V.str j) = decide (i = j) := by
    by_cases h : i = j
    · rw [h]; simp
    · rw [decide_eq_false h, decide_eq_false (fun z => h (V.str.inj z))]
  rw [e]; exact q⟩
theorem e_neS {i j : Str} (q : Q (.bl (!decide (i = j))) H) : rNe (.str i) (.str j) H Q := ⟨rfl, by
  have e : decide (V.str i = V.str j) = decide (i = j) := by
    by_cases h : i = j
    · rw [h]; simp
    · rw [decide_eq_false h, decide_eq_false (fun z => h (V.str.inj z))]
  rw [e]; exact q⟩
theorem e_eqB {i j : Bool} (q : Q (.bl (i == j)) H) : rEq (.bl i) (.bl j) H Q := ⟨rfl, by
  have e : decide (V.bl i = V.bl j) = (i == j) := by cases i <;> cases j <;> rfl
  rw [e]; exact q⟩
theorem e_neB {i j : Bool} (q : Q (.bl (i != j)) H) : rNe (.bl i) (.bl j) H Q := ⟨rfl, by
  have e : (!decide (V.bl i = V.bl j)) = (i != j) := by cases i <;> cases j <;> rfl
  rw [e]; exact q⟩
theorem e_test {Q : Bool → Hp → Prop} (q : te σ H fun x H' => ∃ k, x = .bl k ∧ Q k H') : tTest te σ H Q := q
theorem e_B {Q : Bool → Hp → Prop} (q : te σ H fun x H' => ∃ k, x = .bl k ∧ Q k H') : tB te σ H Q := q
theorem e_ex {b : Bool} {P : Bool → Prop} (q : P b) : ∃ k, V.bl b = .bl k ∧ P k := ⟨b, rfl, q⟩
theorem e_and {Q : Bool → Hp → Prop} (q : tt σ H fun c H1 => if c = true then tu σ H1 Q else Q false H1) : tAnd tt tu σ H Q := q
theorem e_or {Q : Bool → Hp → Prop} (q : tt σ H fun c H1 => if c = true then Q true H1 else tu σ H1 Q) : tOr tt tu σ H Q := q
theorem e_not {Q : Bool → Hp → Prop} (q : tt σ H fun c H1 => Q (!c) H1) : tNot tt σ H Q := q
theorem e_yes {Q : Bool → Hp → Prop} (q : Q true H) : tYes σ H Q := q
theorem e_andV (q : ta σ H fun x H1 => ∃ c, x = .bl c ∧ if c = true then tb σ H1 Q else Q (.bl false) H1) : tAndV ta tb σ H Q := q
theorem e_orV (q : ta σ H fun x H1 => ∃ c, x = .bl c ∧ if c = true then Q (.bl true) H1 else tb σ H1 Q) : tOrV ta tb σ H Q := q
theorem e_notV (q : ta σ H fun x H1 => ∃ c, x = .bl c ∧ Q (.bl (!c)) H1) : tNotV ta σ H Q := q
theorem e_if (q : tt σ H fun c H1 => if c = true then ta σ H1 Q else tb σ H1 Q) : tIf tt ta tb σ H Q := q
theorem e_chain (q : ta σ H fun x H1 => tb σ H1 fun y H2 => r x y H2 fun z H3 => ∃ k, z = .bl k ∧ (if k = true then tx σ H3 fun w' H4 => r' y w' H4 Q else Q (.bl false) H3)) : tChain r r' ta tb tx σ H Q := q
theorem e_seq (q : t { D with nx := u D } σ H) : tSeq t u D σ H := q
theorem e_next (q : D.nx σ H) : tNext D σ H := q
theorem e_break (q : D.bk σ H) : tBreak D σ H := q
theorem e_cont (q : D.ct σ H) : tCont D σ H := q
theorem e_drop (q : te σ H fun _ H1 => D.nx σ H1) : tDrop te D σ H := q
theorem e_ret (q : te σ H D.rt) : tRet te D σ H := q
theorem e_retN (q : D.rt .non H) : tRetN D σ H := q
theorem e_ifS (q : tt σ H fun b H1 => if b = true then t D σ H1 else u D σ H1) : tIfS tt t u D σ H := q
theorem e_asg {g : TG} (q : te σ H fun x H1 => g x σ H1 D.nx) : tAsg te g D σ H := q
theorem e_name {i : Nat} {Q : L2.St → Hp → Prop} (q : Q (σ.set i (some v)) H) : gName i v σ H Q := q
theorem e_sub {to ti : TE} {st : TSet} {Q : L2.St → Hp → Prop} (q : to σ H fun o H1 => ti σ H1 fun i H2 => st o i v H2 fun H3 => Q σ H3) : gSub to ti st v σ H Q := q
theorem e_aug {i : Nat} {ti : TIp} (h : σ[i]? = some (some x)) (q : te σ H fun y H1 => ti x y H1 fun z H2 => D.nx (σ.set i (some z)) H2) : tAug i te ti D σ H := ⟨x, h, q⟩
theorem e_nil {Q : List V → Hp → Prop} (q : Q [] H) : tNil σ H Q := q
theorem e_cons {Q : List V → Hp → Prop} (q : ta σ H fun x H1 => as σ H1 fun xs H2 => Q (x :: xs) H2) : tCons ta as σ H Q := q
theorem e_call {sp : Sp} {dvs : List V} {E : XK} (q : as σ H fun vs H1 => sp (vs ++ dvs) H1 Q E) : tCall sp dvs E as σ H Q := q
theorem e_CB {r : List V → Hp → VK → Prop} (q : as σ H fun vs H1 => r vs H1 Q) : tCB r as σ H Q := q
theorem e_tup (q : as σ H fun xs H1 => xs.length ≤ sizeLine ∧ ∀ p, H1 p = none → Q (.ref p) (upd H1 p (.tup xs))) : tTup as σ H Q := q
theorem e_lst (q : as σ H fun xs H1 => xs.length ≤ sizeLine ∧ ∀ p, H1 p = none → Q (.ref p) (upd H1 p (.lst xs))) : tLst as σ H Q := q
theorem e_sl {r : V → Option Int → Option Int → Hp → VK → Prop} {tl th : TO} (q : te σ H fun x H1 => tl σ H1 fun l H2 => th σ H2 fun u H3 => r x l u H3 Q) : tSl r te tl th σ H Q := q
theorem e_noP {Q : Option Int → Hp → Prop} (q : Q none H) : tNoPart σ H Q := q
theorem e_part {Q : Option Int → Hp → Prop} (q : te σ H fun x H1 => ∃ i, x = .int i ∧ Q (some i) H1) : tPart te σ H Q := q
theorem e_exI {i : Int} {P : Int → Prop} (q : P i) : ∃ k, V.int i = .int k ∧ P k := ⟨i, rfl, q⟩
theorem e_bm {T : String} {r : V → List V → Hp → VK → Prop} {to : TE} (q : to σ H fun x H1 => tyV K T x H1 ∧ as σ H1 fun xs H2 => r x xs H2 Q) : tBM K T r to as σ H Q := q
theorem e_for {wi : TI} {g : TG} (q : wi σ H fun J H1 => ForB J g t D σ H1) : tFor wi g t D σ H := q
theorem e_lc {wi : TI} {g : TG} {vs : List Nat} (q : wi σ H fun J H1 => ∀ D, H1 D = none → LcB J g tt te vs σ D H1 Q) : tLc wi g tt te vs σ H Q := q
theorem e_exS {i : Str} {P : Str → Prop} (q : P i) : ∃ k, V.str i = .str k ∧ P k := ⟨i, rfl, q⟩
theorem e_exR {a : Addr} {xs : List V} {P : Addr → Prop} (h : SqL K H a xs) (q : P a) : ∃ k, V.ref a = .ref k ∧ (∃ xs, SqL K H k xs) ∧ P k := ⟨a, rfl, ⟨xs, h⟩, q⟩
theorem e_exRT {a : Addr} {xs : List V} {P : Addr → Prop} (h : SqT K H a xs) (q : P a) : ∃ k, V.ref a = .ref k ∧ (∃ xs, SqT K H k xs) ∧ P k := ⟨a, rfl, ⟨xs, h⟩, q⟩
theorem e_rng1 {n : Int} {P : Int → Prop} (h1 : -(2 ^ 62) ≤ n) (h2 : n < 2 ^ 62) (q : P n) : ∃ j : Int, [V.int n] = [.int j] ∧ -(2 ^ 62) ≤ j ∧ j < 2 ^ 62 ∧ P j := ⟨n, rfl, h1, h2, q⟩
theorem e_rng2 {m n : Int} {P : Int → Int → Prop} (h : -(2 ^ 62) ≤ m ∧ m < 2 ^ 62 ∧ -(2 ^ 62) ≤ n ∧ n < 2 ^ 62) (q : P m n) : ∃ i j : Int, [V.int m, V.int n] = [.int i, .int j] ∧ (-(2 ^ 62) ≤ i ∧ i < 2 ^ 62 ∧ -(2 ^ 62) ≤ j ∧ j < 2 ^ 62) ∧ P i j := ⟨m, n, rfl, h, q⟩
theorem e_m0 {r : V → List V → Hp → VK → Prop} {to : TE} (q : to σ H fun x H1 => (∃ a, x = .str a) ∧ r x [] H1 Q) : tM0 r to σ H Q := q
theorem e_m1 {r : V → List V → Hp → VK → Prop} {to : TE} (q : to σ H fun x H1 => (∃ a, x = .str a) ∧ te σ H1 fun y H2 => r x [y] H2 Q) : tM1 r to te σ H Q := q
theorem e_slS {z : Str} {lo hi : Option Int} (h : z.length ≤ sizeLine) (q : Q (.str (cutS z lo hi)) H) : rSlS (.str z) lo hi H Q := ⟨z, rfl, h, q⟩
theorem e_iList {R : It → Hp → Prop} {tl : TE} (q : tl σ H fun x H1 => ∃ a, x = .ref a ∧ (∃ xs, SqL K H1 a xs) ∧ R (Itl K a) H1) : iList K tl σ H R := q
theorem e_iTup {R : It → Hp → Prop} {tl : TE} (q : tl σ H fun x H1 => ∃ a, x = .ref a ∧ (∃ xs, SqT K H1 a xs) ∧ R (Itt K a) H1) : iTup K tl σ H R := q
theorem e_iStr {R : It → Hp → Prop} {tl : TE} (q : tl σ H fun v H1 => ∃ x, v = .str x ∧ R (Its x) H1) : iStr tl σ H R := q
theorem e_iRng1 {R : It → Hp → Prop} (q : as σ H fun vs H1 => ∃ j : Int, vs = [.int j] ∧ -(2 ^ 62) ≤ j ∧ j < 2 ^ 62 ∧ R (Itr 0 j.toNat) H1) : iRng1 as σ H R := q
theorem e_iRng2 {R : It → Hp → Prop} (q : as σ H fun vs H1 => ∃ i j : Int, vs = [.int i, .int j] ∧ (-(2 ^ 62) ≤ i ∧ i < 2 ^ 62 ∧ -(2 ^ 62) ≤ j ∧ j < 2 ^ 62) ∧ R (Itr i (j - i).toNat) H1) : iRng2 as σ H R := q
theorem e_ixL {p : Addr} {xs : List V} {i : Int} (h : SqL K H p xs) (ha : atI xs i = some v) (q : Q v H) : rIxL K (.ref p) (.int i) H Q := ⟨p, xs, i, v, rfl, rfl, h, ha, q⟩
theorem e_ixT {p : Addr} {xs : List V} {i : Int} (h : SqT K H p xs) (ha : atI xs i = some v) (q : Q v H) : rIxT K (.ref p) (.int i) H Q := ⟨p, xs, i, v, rfl, rfl, h, ha, q⟩
theorem e_ixS {z : Str} {i : Int} {c : Nat} (hz : z.length ≤ sizeLine) (ha : atI z.cps.toList i = some c) (q : Q (.str ⟨#[c]⟩) H) : rIxS (.str z) (.int i) H Q := ⟨z, i, c, rfl, rfl, hz, ha, q⟩
theorem e_len {p : Addr} {ys : List V} (h : SqL K H p ys) (q : Q (.int ys.length) H) : ∃ p' ys', [V.ref p] = [V.ref p'] ∧ (SqL K H p' ys' ∨ SqT K H p' ys') ∧ Q (.int (ys'.length : Nat)) H := ⟨p, ys, rfl, .inl h, q⟩
theorem e_lenT {p : Addr} {ys : List V} (h : SqT K H p ys) (q : Q (.int ys.length) H) : ∃ p' ys', [V.ref p] = [V.ref p'] ∧ (SqL K H p' ys' ∨ SqT K H p' ys') ∧ Q (.int (ys'.length : Nat)) H := ⟨p, ys, rfl, .inr h, q⟩
theorem e_lenS {z : Str} (h : z.length ≤ sizeLine) (q : Q (.int z.length) H) : ∃ z', [V.str z] = [V.str z'] ∧ z'.length ≤ sizeLine ∧ Q (.int (z'.length : Nat)) H := ⟨z, rfl, h, q⟩
theorem e_int1 {i : Int} (q : Q (.int i) H) : (∃ i', [V.int i] = [V.int i'] ∧ Q (.int i') H) ∨ ∃ k, [V.int i] = [V.bl k] ∧ Q (.int (if k = true then 1 else 0)) H := .inl ⟨i, rfl, q⟩
theorem e_setL {p : Addr} {xs : List V} {k : Int} {j : Nat} {Q : Hp → Prop} (h : H p = some (.lst xs)) (hj : ixN xs.length k = some j) (q : Q (upd H p (.lst (xs.set j v)))) : rSetL (.ref p) (.int k) v H Q := ⟨p, xs, k, j, rfl, rfl, h, hj, q⟩
theorem e_cut {Mid : L2.St → Hp → Prop} (h1 : t { D with nx := Mid } σ H) (h2 : ∀ σ' H', Mid σ' H' → u D σ' H') : C8.tCut t u D σ H := ⟨Mid, h1, h2⟩
/-- a test that is known, or open -/
theorem i_T {A B : Prop} (h : A) : if true = true then A else B := by rw [if_pos rfl]; exact h
theorem i_F {A B : Prop} (h : B) : if false = true then A else B := by rw [if_neg Bool.false_ne_true]; exact h
theorem i_d {p : Prop} [Decidable p] {A B : Prop} (h1 : p → A) (h2 : ¬ p → B) : if decide p = true then A else B := by
  by_cases h : p
  · rw [decide_eq_true h]; exact i_T (h1 h)
  · rw [decide_eq_false h]; exact i_F (h2 h)
theorem i_nd {p : Prop} [Decidable p] {A B : Prop} (h1 : ¬ p → A) (h2 : p → B) : if (!decide p) = true then A else B := by
  by_cases h : p
  · rw [decide_eq_true h]; exact i_F (h2 h)
  · rw [decide_eq_false h]; exact i_T (h1 h)
theorem i_b {b : Bool} {A B : Prop} (h1 : b = true → A) (h2 : b = false → B) : if b = true then A else B := by
  cases b
  · exact i_F (h2 rfl)
  · exact i_T (h1 rfl)
theorem i_nself {b : Bool} {A B : Prop} (h : B) : if (!(b == b)) = true then A else B := by
  rw [beq_self_eq_true]; exact i_F h
theorem i_self {α : Type} [DecidableEq α] {x : α} {A B : Prop} (h : A) : if decide (x = x) = true then A else B := by
  rw [decide_eq_true rfl]; exact i_T h
theorem i_neself {α : Type} [DecidableEq α] {x : α} {A B : Prop} (h : B) : if (!decide (x = x)) = true then A else B := by
  rw [decide_eq_true rfl]; exact i_F h
theorem i_nb {b : Bool} {A B : Prop} (h1 : b = false → A) (h2 : b = true → B) : if (!b) = true then A else B := by
  cases b
  · exact i_T (h1 rfl)
  · exact i_F (h2 rfl)
end

section
variable {K : PySem.W.Frag} {H : Hp} {Q : VK}
theorem isi_ty {x : V} {t n : String} {b : Bool} (ty : TyX K H x (.type t)) (e : PySem.W.kitOne K (.type t) (.type n) = some b) (q : Q (.bl b) H) : rIsi K [x, .ty n] H Q := ⟨x, .ty n, _, _, b, rfl, .ty n, ty, e, q⟩
theorem isi_bb {x : Bool} (q : Q (.bl true) H) : rIsi K [.bl x, .ty "bool"] H Q := isi_ty (.base (.bl x)) (kit_ty (by decide +kernel)) q
theorem isi_ib {x : Int} (q : Q (.bl false) H) : rIsi K [.int x, .ty "bool"] H Q := isi_ty (.base (.int x)) (kit_ty (by decide +kernel)) q
theorem isi_bi {x : Bool} (q : Q (.bl true) H) : rIsi K [.bl x, .ty "int"] H Q := isi_ty (.base (.bl x)) (kit_ty (by decide +kernel)) q
theorem isi_ii {x : Int} (q : Q (.bl true) H) : rIsi K [.int x, .ty "int"] H Q := isi_ty (.base (.int x)) (kit_ty (by decide +kernel)) q
theorem isi_si {x : Str} (q : Q (.bl false) H) : rIsi K [.str x, .ty "int"] H Q := isi_ty (.base (.str x)) (kit_ty (by decide +kernel)) q
theorem isi_ni (q : Q (.bl false) H) : rIsi K [.non, .ty "int"] H Q := isi_ty (.base .non) (kit_ty (by decide +kernel)) q
theorem isi_tt {p : Addr} {xs : List V} (h : H p = some (.tup xs)) (q : Q (.bl true) H) : rIsi K [.ref p, .ty "tuple"] H Q := isi_ty (.base (.tup h)) (kit_ty (by decide +kernel)) q
theorem isi_ll {p : Addr} {xs : List V} (h : H p = some (.lst xs)) (q : Q (.bl true) H) : rIsi K [.ref p, .ty "list"] H Q := isi_ty (.base (.lst h)) (kit_ty (by decide +kernel)) q
theorem isi_lt {p : Addr} {xs : List V} (h : H p = some (.lst xs)) (q : Q (.bl false) H) : rIsi K [.ref p, .ty "tuple"] H Q := isi_ty (.base (.lst h)) (kit_ty (by decide +kernel)) q
end
/-! ### defs that are called by their names -/
structure Cal (P : Program) (w : World) (K : PySem.W.Frag) (mg : Str → Option Value) (base : Heap) (k : Nat) (x : Str) (sp : Sp) : Prop where
  ex : ∃ (f : Addr) (fd : FuncData) (ps : List Str), FnOk P w K mg base CX0 k f fd ps sp ∧ mg x = some (.ref f) ∧ PySem.W.keepIn K (.ref f) = true ∧ Binds K fd ps []
theorem pe_c {X : Cx} {k j : Nat} {x : Str} {sp : Sp} {p pos : Pos} {e : Expr} {es : List Expr} {t : TA} (c : Cal X.prog X.w X.K X.mg X.base k x sp) (hr : Room j X.A) (hk : k ≤ j) (hg : Gl X x) (ha : PA X (e :: es) t)
    (hdb : (x == ("__debug__" : Str)) = false := by decide) 
    (he : starEach (e :: es) X.env = (false, eval e X.env) :: starEach es X.env := by rfl) 
    (hpl : (backTo pos (starEach es X.env)).any (·.1) = false := by rfl) :
    PE X (.Call (.Name x p) (e :: es) [] pos) (tCall sp [] E0 t) := by
  obtain ⟨f, fd, ps, F, hm, kp, b⟩ := c.ex
  exact pe_call F (hr.mono hk) hg hm kp b .nil pass0 ha hdb he hpl
theorem pe_c0 {X : Cx} {k j : Nat} {x : Str} {sp : Sp} {p pos : Pos} (c : Cal X.prog X.w X.K X.mg X.base k x sp) (hr : Room j X.A) (hk : k ≤ j) (hg : Gl X x)
    (hdb : (x == ("__debug__" : Str)) = false := by decide) :
    PE X (.Call (.Name x p) [] [] pos) (tCall sp [] E0 tNil) := by
  obtain ⟨f, fd, ps, F, hm, kp, b⟩ := c.ex
  exact pe_call0 F (hr.mono hk) hg hm kp b .nil pass0 hdb

/-- promises by arity -/
abbrev sp0 (R : Hp → VK → Prop) : Sp := fun vs H Q _ => vs = [] ∧ R H Q
abbrev sp1 (R : V → Hp → VK → Prop) : Sp := fun vs H Q _ => ∃ a, vs = [a] ∧ R a H Q
abbrev sp2 (R : V → V → Hp → VK → Prop) : Sp := fun vs H Q _ => ∃ a b, vs = [a, b] ∧ R a b H Q
abbrev sp3 (R : V → V → V → Hp → VK → Prop) : Sp := fun vs H Q _ => ∃ a b c, vs = [a, b, c] ∧ R a b c H Q
abbrev sp4 (R : V → V → V → V → Hp → VK → Prop) : Sp := fun vs H Q _ => ∃ a b c d, vs = [a, b, c, d] ∧ R a b c d H Q


theorem sz_of {n : Nat} (h : n ≤ 1000000) : n ≤ sizeLine := Nat.le_trans h (by decide)
/-! ### heaps: all but one address as it was -/
def Kp (st : Addr) (H H' : Hp) : Prop := ∀ b o, b ≠ st → H b = some o → H' b = some o
theorem Kp.refl (st : Addr) (H : Hp) : Kp st H H := fun _ _ _ h => h
theorem Kp.trans {st : Addr} {H H1 H2 : Hp} (a : Kp st H H1) (b : Kp st H1 H2) : Kp st H H2 := fun c o n h => b c o n (a c o n h)
theorem Kp.of {st : Addr} {H H' : Hp} (a : Same H H') : Kp st H H' := fun c o _ h => a c o h
theorem same_new {H : Hp} {p : Addr} {o : HO} (h : H p = none) : Same H (upd H p o) := fun b x e => by
  rw [upd_ne (ne_of_none e h)]
  exact e
theorem Kp.new {st p : Addr} {H : Hp} {o : HO} (h : H p = none) : Kp st H (upd H p o) := Kp.of (same_new h)
/-- an object that was not there at first may change -/
theorem Kp.mut {st p : Addr} {H H' : Hp} {o : HO} (a : Kp st H H') (h : H p = none) : Kp st H (upd H' p o) := fun b x n e => by
  rw [upd_ne (ne_of_none e h)]
  exact a b x n e
theorem Kp.put {st : Addr} {H H' : Hp} {o : HO} (a : Kp st H H') : Kp st H (upd H' st o) := fun b x n e => by
  rw [upd_ne n]
  exact a b x n e
theorem Same.mut {p : Addr} {H H' : Hp} {o : HO} (a : Same H H') (h : H p = none) : Same H (upd H' p o) := fun b x e => by
  rw [upd_ne (ne_of_none e h)]
  exact a b x e
theorem Kp.free {st p : Addr} {H H' : Hp} (a : Kp st H H') (hs : ∃ o, H' st = some o) (h : H' p = none) : H p = none := by
  cases q : H p with
  | none => rfl
  | some o =>
    by_cases e : p = st
    · obtain ⟨o', h'⟩ := hs
      rw [e, h'] at h
      cases h
    · rw [a p o e q] at h
      cases h

/-- the state of the draws and the script: two ints at st, the script at sc whatever is drawn -/
structure Dr (K : PySem.W.Frag) (st sc : Addr) (ns : List Int) (H : Hp) : Prop where
  s : ∃ a b : Int, 0 ≤ a ∧ 0 ≤ b ∧ H st = some (.lst [.int a, .int b])
  sc : ∀ H', Kp st H H' → SqL K H' sc (ns.map V.int)
  len : ns.length ≤ 63
theorem Dr.kp {K : PySem.W.Frag} {st sc : Addr} {ns : List Int} {H H' : Hp} (d : Dr K st sc ns H) (k : Kp st H H') (s : ∃ a b : Int, 0 ≤ a ∧ 0 ≤ b ∧ H' st = some (.lst [.int a, .int b])) : Dr K st sc ns H' :=
  ⟨s, fun H2 k2 => d.sc H2 (k.trans k2), d.len⟩
theorem Dr.same {K : PySem.W.Frag} {st sc : Addr} {ns : List Int} {H H' : Hp} (d : Dr K st sc ns H) (k : Same H H') : Dr K st sc ns H' := by
  obtain ⟨a, b, h1, h2, h3⟩ := d.s
  exact d.kp (Kp.of k) ⟨a, b, h1, h2, k _ _ h3⟩
theorem Dr.seq {K : PySem.W.Frag} {st sc : Addr} {ns : List Int} {H : Hp} (d : Dr K st sc ns H) : SqL K H sc (ns.map V.int) := d.sc H (Kp.refl st H)
theorem sq_keep {K : PySem.W.Frag} {H H' : Hp} {a p : Addr} {xs : List V} (h : SqL K H a xs) (hp : H p = none) (k : Kp p H H') : SqL K H' a xs := by
  rcases h with (h | ⟨c9, h⟩) | h
  · exact .inl (.inl (k _ _ (ne_of_none h hp) h))
  · exact .inl (.inr ⟨c9, k _ _ (ne_of_none h hp) h⟩)
  · exact .inr h
theorem Dr.start {K : PySem.W.Frag} {st sc : Addr} {ns : List Int} {H : Hp} (h : SqL K H sc (ns.map V.int)) (hp : H st = none) (hl : ns.length ≤ 63) : Dr K st sc ns (upd H st (.lst [.int 0, .int 0])) :=
  ⟨⟨0, 0, by decide, by decide, upd_same⟩, fun H' k => sq_keep h hp fun b o n e => k b o n (by rw [upd_ne n]; exact e), hl⟩
theorem Dr.ne {K : PySem.W.Frag} {st sc p : Addr} {ns : List Int} {H : Hp} (d : Dr K st sc ns H) (h : H p = none) : p ≠ st := by
  obtain ⟨a, b, _, _, h3⟩ := d.s
  intro e
  rw [e, h3] at h
  cases h
theorem pick_int {l : List Int} {d : Int} (h0 : 0 ≤ d) (h1 : d < l.length) : ∃ n, n ∈ l ∧ atI (l.map V.int) d = some (.int n) := by
  have h : d.toNat < l.length := by omega
  exact ⟨l[d.toNat], List.getElem_mem h, at_of (j := d.toNat) (by omega) (by rw [List.getElem?_map, List.getElem?_eq_getElem h]; rfl)⟩
theorem pick_nat {l : List Nat} {d : Int} (h0 : 0 ≤ d) (h1 : d < l.length) : ∃ n, n ∈ l ∧ atI l d = some n := by
  have h : d.toNat < l.length := by omega
  obtain ⟨j, hj⟩ : ∃ j : Nat, d = (j : Int) := ⟨d.toNat, by omega⟩
  have h2 : j < l.length := by omega
  subst hj
  exact ⟨l[j], List.getElem_mem h2, atI_nat (List.getElem?_eq_getElem h2)⟩
theorem at_last {ns : List Int} (h : 0 < ns.length) : ∃ x, atI (ns.map V.int) (-1) = some (.int x) := by
  have e : ns = ns.dropLast ++ [ns.getLast (by intro q; rw [q] at h; cases h)] := (List.dropLast_concat_getLast _).symm
  rw [e, List.map_append]
  exact ⟨_, atI_last _ _⟩
theorem pick_sign {z : Str} {d : Int} (h0 : 0 ≤ d) (h1 : d < (z.length : Int)) : ∃ c, c ∈ z.cps.toList ∧ atI z.cps.toList d = some c :=
  pick_nat h0 (by simpa [Str.length] using h1)
theorem len_app (a b : Str) : (a ++ b).length = a.length + b.length := PySem.Str.length_append a b
/-- what a call behind which only the draws' state has changed hands on -/
def RDraw (K : PySem.W.Frag) (st sc : Addr) (ns : List Int) (H : Hp) (G : Hp → Prop) : Prop := Dr K st sc ns H ∧ ∀ H', Kp st H H' → Dr K st sc ns H' → G H'
theorem Dr.mut {K : PySem.W.Frag} {st sc p : Addr} {ns : List Int} {H0 H1 : Hp} {o : HO} (d0 : Dr K st sc ns H0) (d : Dr K st sc ns H1) (hp : H0 p = none) (k : Kp st H0 H1) : Dr K st sc ns (upd H1 p o) := by
  obtain ⟨a, b, h1, h2, h3⟩ := d.s
  exact d0.kp (k.mut hp) ⟨a, b, h1, h2, by rw [upd_ne (d0.ne hp).symm]; exact h3⟩
section
variable {K : PySem.W.Frag} {g : TG} {σ : L2.St} {te : TE} {vs : List Nat} {Q : VK} {Da st sc : Addr} {ns : List Int} {H0 : Hp}
/-- [e for k in range(..)], e with draws -/
theorem lc_dr {lo : Int} {n : Nat} (d0 : Dr K st sc ns H0) (hD : H0 Da = none) (hn : n ≤ 1000000) (Pe : V → Prop)
    (hs : ∀ (i : Nat) (H2 : Hp) (C : VK) (E : Hp → Prop), i < n → Kp st H0 H2 → Dr K st sc ns H2 → (∀ y H3, Kp st H2 H3 → Dr K st sc ns H3 → Pe y → C y H3) →
      g (.int (lo + i)) (wipe σ vs) H2 fun σ2 H2 => wipe σ2 vs = wipe σ vs ∧ tYes σ2 H2 fun b H3 => if b = true then te σ2 H3 C else E H3)
    (hd : ∀ (H : Hp) (xs : List V), Kp st H0 H → Dr K st sc ns H → H Da = some (.lst xs) → xs.length = n → (∀ x ∈ xs, Pe x) → Q (.ref Da) H) : LcB (Itr lo n) g tYes te vs σ Da H0 Q := by
  have nD := d0.ne hD
  refine lc_rng (fun i H2 => Kp st H0 H2 ∧ Dr K st sc ns H2 ∧ ∃ xs : List V, H2 Da = some (.lst xs) ∧ xs.length = i ∧ ∀ x ∈ xs, Pe x) ⟨Kp.new hD, d0.same (same_new hD), [], upd_same, rfl, fun _ hy => by cases hy⟩ (fun i H2 hi p => ?_) (fun H2 p => ?_)
  · obtain ⟨k4, d4, xs, e4, l4, o4⟩ := p
    refine hs i H2 _ _ hi k4 d4 fun y H3 k5 d5 hy => ?_
    refine ⟨xs, k5 _ _ nD e4, Nat.lt_of_le_of_lt (Nat.le_of_lt (by omega : xs.length < 1000001)) (by decide), (k4.trans k5).mut hD, Dr.mut d0 d5 hD (k4.trans k5), xs ++ [y], upd_same, by simp [l4], fun z hz => ?_⟩
    rcases List.mem_append.mp hz with h | h
    · exact o4 z h
    · rw [List.mem_singleton.mp h]; exact hy
  · obtain ⟨k4, d4, xs, e4, l4, o4⟩ := p
    exact hd H2 xs k4 d4 e4 l4 o4
/-- [e for k in range(..)], e a function of k -/
theorem lc_map_rng {lo : Int} {n : Nat} (hD : H0 Da = none) (hn : n ≤ 1000000) (f : Nat → V)
    (hs : ∀ (i : Nat) (H2 : Hp) (C : VK) (E : Hp → Prop), i < n → Same H0 H2 → (∀ H3, Same H2 H3 → C (f i) H3) →
      g (.int (lo + i)) (wipe σ vs) H2 fun σ2 H2 => wipe σ2 vs = wipe σ vs ∧ tYes σ2 H2 fun b H3 => if b = true then te σ2 H3 C else E H3)
    (hd : ∀ (H : Hp), Same H0 H → H Da = some (.lst ((List.range n).map f)) → Q (.ref Da) H) : LcB (Itr lo n) g tYes te vs σ Da H0 Q := by
  refine lc_rng (fun i H2 => Same H0 H2 ∧ H2 Da = some (.lst ((List.range i).map f))) ⟨same_new hD, upd_same⟩ (fun i H2 hi p => ?_) (fun H2 p => hd H2 p.1 p.2)
  obtain ⟨k4, e4⟩ := p
  refine hs i H2 _ _ hi k4 fun H3 k5 => ?_
  refine ⟨_, k5 _ _ e4, Nat.lt_of_le_of_lt (by simp; omega : _ ≤ 1000000) (by decide), Same.mut (k4.trans k5) hD, ?_⟩
  rw [upd_same, List.range_succ, List.map_append]
  rfl
/-- [e for x in xs], a list, e a function of x -/
theorem lc_map_lst {a : Addr} {xs : List V} (hS : SqL K H0 a xs) (hD : H0 Da = none) (hn : xs.length ≤ 1000000) (f : V → V)
    (hs : ∀ (x : V) (H2 : Hp) (C : VK) (E : Hp → Prop), x ∈ xs → Same H0 H2 → (∀ H3, Same H2 H3 → C (f x) H3) →
      g x (wipe σ vs) H2 fun σ2 H2 => wipe σ2 vs = wipe σ vs ∧ tYes σ2 H2 fun b H3 => if b = true then te σ2 H3 C else E H3)
    (hd : ∀ (H : Hp), Same H0 H → H Da = some (.lst (xs.map f)) → Q (.ref Da) H) : LcB (Itl K a) g tYes te vs σ Da H0 Q := by
  refine lc_lst (xs := xs) (fun pre H2 => Same H0 H2 ∧ H2 Da = some (.lst (pre.map f)) ∧ pre.length ≤ xs.length) ⟨same_new hD, upd_same, Nat.zero_le _⟩ (fun pre H2 p => p.1.seq hS) (fun pre x post H2 e p => ?_) (fun H2 p => hd H2 p.1 p.2.1)
  obtain ⟨k4, e4, l4⟩ := p
  refine hs x H2 _ _ (by rw [e]; simp) k4 fun H3 k5 => ?_
  refine ⟨_, k5 _ _ e4, Nat.lt_of_le_of_lt (by simp; omega : _ ≤ 1000000) (by decide), Same.mut (k4.trans k5) hD, ?_, by rw [e]; simp⟩
  rw [upd_same, List.map_append]
  rfl
end
/-- a draw: any number below the size -/
def spDraw (K : PySem.W.Frag) : Sp := sp3 fun a b c H Q => ∃ (st sc : Addr) (ns : List Int) (n : Int), a = .ref st ∧ b = .ref sc ∧ c = .int n ∧ Dr K st sc ns H ∧ 0 < n ∧ n < 2 ^ 60 ∧
  ∀ (d : Int) (H' : Hp), 0 ≤ d → d < n → Kp st H H' → Dr K st sc ns H' → Q (.int d) H'

abbrev FnP (K : PySem.W.Frag) (x : Str) (st : Stmt) (f : Addr) (fd : FuncData) : Prop :=
  FunD K x x (defArgs st) (defBody st) (defScope st) [] [] f fd
end Vf

namespace PySem
open Sem (wp)
theorem meets_enumerate_newTup (l : Addr) (row : Array Value) (ob : Obj) (cap : Nat) :
    Meets (Builtin.«enumerate.__new__» ⟨[.type "enumerate", .ref l], []⟩) (fun _ R s => (s.heap.get? l = some ob ∧ ob.cls = .type "tuple" ∧ ob.data = .seq row cap) ∧
      R (.ok (.ret (.ref (s.heap.push { cls := .type "tuple_iterator", data := .fields #[.ref l, .int 0 0] }).objs.size)))
        { s with heap := (s.heap.push { cls := .type "tuple_iterator", data := .fields #[.ref l, .int 0 0] }).push { cls := .type "enumerate", data := .fields #[.none, .bool false, .ref s.heap.objs.size, rawInt 0, .none, .none] } }) :=
  .of_wp fun prg w A R s h => by
    obtain ⟨hp, g, d, tk, os⟩ := s; obtain ⟨⟨hl9, wc, wd⟩, h⟩ := h
    have hsub := sub_enumerate
    have isT : Heap.IsTuple (Shared.heap ⟨hp, g, d, tk, os⟩) l row := ⟨_, hl9, wc, cap, wd⟩
    have q1 : ∀ {A' : Around} {E : Value → Shared → Prop} {Q : Value → Shared → Prop}, Q (.ref hp.objs.size) ⟨hp.push { cls := .type "tuple_iterator", data := .fields #[.ref l, .int 0 0] }, g, d, tk, os⟩ → wpAny (model prg w) A' (pyIter (.ref l)) Q E ⟨hp, g, d, tk, os⟩ :=
      fun q => wpAny_pyIter_tuple isT q
    wp_walk using q1
    refine wpAny_stack_any fun here => wpAny_pure ?_
    split
    · rename_i cls9 _ _ _ _ _
      cases (cls9 == Value.type "enumerate")
      · wp_walk using q1
        exact ⟨_, rfl, h⟩
      · wp_walk using q1
        exact ⟨_, rfl, h⟩
    · wp_walk using q1
      exact ⟨_, rfl, h⟩
section
variable {prg : Program} {w : World} {A : Around} {E : Value → Shared → Prop} {s : Shared}
/-- the object that enumerate makes, and the turning over a tuple -/
abbrev enOf (it : Addr) : Obj := { data := .fields #[.none, .bool false, .ref it, rawInt 0, .none, .none], cls := .type "enumerate" }
abbrev tiOf (l : Addr) : Obj := { data := .fields #[.ref l, .int 0 0], cls := .type "tuple_iterator" }
theorem call_enumerate_tup {l : Addr} {row : Array Value} {Q : Value → Shared → Prop} (isT : s.heap.IsTuple l row)
    (h : ∀ h', IsEnum h' (s.heap.objs.size + 1) s.heap.objs.size 0 .none → h'.IsTupleIter s.heap.objs.size l 0 → h'.objs.size = s.heap.objs.size + 2 →
      (∀ bb ob, s.heap.get? bb = some ob → h'.get? bb = some ob) → Q (.ref (s.heap.objs.size + 1)) { s with heap := h' }) :
    wpAny (model prg w) A
      (call (.type "enumerate") [.ref l]) Q E s := by
  obtain ⟨ob, hl9, wc, cap, wd⟩ := isT
  refine callType_new F.called_enumerate (by decide) (F.typeCall_enumerate_1 _)
    (F.newCall_enumerate_1 _) (fun it => F.args_object_init_2 it _) F.entry_enumerate_new (meets_enumerate_newTup l row ob cap) ⟨⟨hl9, wc, wd⟩, ?_⟩
  have szz : (s.heap.push (tiOf l)).objs.size = s.heap.objs.size + 1 := Heap.size_push ..
  show _ ∧ _
  rw [szz]
  have qe : IsEnum ((s.heap.push (tiOf l)).push
      (enOf s.heap.objs.size)) (s.heap.objs.size + 1) s.heap.objs.size 0 .none := by
    have := Heap.get?_push_size (s.heap.push (tiOf l))
      (o := enOf s.heap.objs.size) rfl
    rw [szz] at this; exact this
  refine ⟨⟨_, qe, rfl⟩, h _ qe ⟨_, Heap.get?_push_of_some _ (Heap.get?_push_size _ rfl), rfl, rfl⟩ (by rw [Heap.size_push, szz]) fun bb ob x => Heap.get?_push_of_some _ (Heap.get?_push_of_some _ x)⟩
theorem enumT_end {e it t : Addr} {i : Nat} {row : Array Value} {prev : Value} {Q : Option Value → Shared → Prop} (hh : A.handled = none)
    (qe : IsEnum s.heap e it i prev) (qi : s.heap.IsTupleIter it t i) (hl9 : s.heap.IsTuple t row) (ne2 : t ≠ it) (atx : row[i]? = none)
    (hQ : ∀ h', Heap.ExtBut it s.heap h' → Q none { s with heap := h' }) : wpAny (model prg w) A (pyNext (.ref e)) Q E s := by
  have ty1 : s.TypeIs (.ref e) "enumerate" := ⟨_, qe, rfl⟩
  unfold pyNext
  refine wpAny_bind (wpAny_attempt (wpAny_callSpecial?_slot (name := Str.ofString "__next__") ty1 F.slot_enumerate_next
    (wpAny_call_entry F.slot_enumerate_next ty1 F.entry_enumerate_next ?_ (F.args_enumerate_next_1 _))))
  show wpAny (model prg w) A.in1
    (field (.ref e) 2 >>= _) _ _ s
  refine wpAny_bind (wpAny_field qe rfl (x := .ref it) rfl ?_)
  refine wpAny_bind (wpAny_nextOf_tuple_end hh qi hl9 atx fun h' x he' hx' => ?_)
  obtain ⟨ob, wo, wc⟩ := hx'
  refine wpAny_bind (wpAny_isInstance (T := "StopIteration") (b := true) ⟨ob, wo, wc⟩ isSubtype_stop ?_)
  exact wpAny_pure (hQ _ he')
end
end PySem
namespace Vf
open PySem L2 PySem.Spec PyProof.Rows
/-- enumerate(t), t a tuple -/
def IteT (K : PySem.W.Frag) (a : Addr) : It :=
  ⟨fun i H => ∃ (xs : List V) (x : V), SqT K H a xs ∧ xs[i]? = some x, fun i H v H' => ∃ T x, v = .ref T ∧ H T = none ∧ H' = upd H T (.tup [.int (i : Nat), x]) ∧ ∀ xs, SqT K H a xs → xs[i]? = some x, fun i H => ∃ xs : List V, SqT K H a xs ∧ xs.length ≤ i⟩
theorem turn_enumT {P : Program} {w : World} {K : PySem.W.Frag} {elts : List Expr} {kk : Nat} {tpos : Pos} (a e it : Addr) :
    Turn P w K (.Tuple elts kk tpos) (IteT K a) [e, it] e (fun i h => (∃ prev, IsEnum h e it ((i : Nat) : Int) prev) ∧ h.IsTupleIter it a i ∧ e ≠ it) where
  mem := by simp
  obj := fun i h here bb mb => by
    obtain ⟨⟨prev, qe⟩, ⟨ob, wo, wc, wd⟩, _⟩ := here
    have e' : bb = e ∨ bb = it := by simpa using mb
    rcases e' with z | z
    · rw [z]; exact ⟨_, qe, fun v q => nomatch q⟩
    · rw [z]; exact ⟨ob, wo, fun v q => by rw [wd] at q; cases q⟩
  keep := fun i h h' here k => let ⟨⟨prev, qe⟩, hi9, qn⟩ := here; ⟨⟨prev, k e (by simp) _ qe⟩, hi9.at fun ob q => k it (by simp) ob q, qn⟩
  item := by
    intro X hP hw hK wc i pins s σ H E I fp here got
    subst hP hw hK
    obtain ⟨⟨prev, qe⟩, qi, qn⟩ := here
    obtain ⟨xs, x, wq, atx⟩ := got
    obtain ⟨cells, rds, p, szz⟩ := I.tuple wq
    obtain ⟨u, mu, rdu⟩ := rds.get atx
    have le1 : e < s.heap.objs.size := Heap.lt_size qe
    have le2 : it < s.heap.objs.size := by obtain ⟨_, q, _⟩ := qi; exact Heap.lt_size q
    have ne1 : a ≠ e := by
      intro z
      obtain ⟨ob, wo, hc2, _⟩ := p
      rw [z, qe] at wo
      cases wo
      injection hc2 with q
      exact absurd q (by decide)
    have ne2 : a ≠ it := by
      intro z
      obtain ⟨ob, wo, hc2, _⟩ := p
      obtain ⟨o2, ho2, hc3, _⟩ := qi
      rw [z, ho2] at wo
      cases wo
      rw [hc3] at hc2
      injection hc2 with q
      exact absurd q (by decide)
    have hlt : i < cells.toArray.size := by
      have := (List.getElem?_eq_some_iff.mp mu).1
      simpa using this
    refine wpAny_pyNext_enum_itemD (Draws.tuple (A := X.A.in1) (show X.A.in1.handled = none from I.ok.hd wc) it a ne2 cells.toArray) qe ⟨qi, p⟩ hlt qn (by simp [qn, Ne.symm ne1]) fun x' h' tk hP wo hst' ty1 hsz keep1 => ?_
    have ex : x' = u := by
      have q1 : cells[i]? = some x' := by simpa using hP
      exact Option.some.inj (q1.symm.trans mu)
    subst ex
    refine ⟨_, rfl, wpAny_letOwnedTupleGo_enum (s := { s with heap := h', toks := tk + 1 }) wo fun h'' he' only1 => ?_⟩
    have ty2 : h''.get? s.heap.objs.size = some { cls := .type "tuple", data := .seq #[.int i tk, x'] } := (only1.2 _ (Nat.ne_of_gt le1)).trans ty1
    have fresh1 : ObjOk X.prog X.w (upd H s.heap.objs.size (.tup [.int (i : Nat), x])) h'' s.heap.objs.size (.tup [.int (i : Nat), x]) :=
      ⟨by show 2 ≤ sizeLine; decide, [.int i tk, x'], .cons ⟨_, rfl⟩ (.cons rdu .nil), ⟨_, ty2, rfl, _, rfl⟩⟩
    have J1 : Inv X pins σ (upd H s.heap.objs.size (.tup [.int (i : Nat), x])) { s with heap := h'', toks := tk + 1 } :=
      I.turnedNew (ch := [e, it]) (fun bb ob mb q => (only1.2 bb (fun z => mb (by simp [z]))).trans (keep1 bb ob (fun z => mb (by simp [z])) (fun z => mb (by simp [z])) q)) fp (Nat.le_refl _) fresh1
    refine ⟨.ref s.heap.objs.size, _, J1, rfl, ⟨_, x, rfl, I.hok.fresh (Nat.le_refl _), rfl, fun ys hy => by rw [I.tuple_inj hy wq]; exact atx⟩, ⟨⟨x', ?_⟩, hst'.1.at fun ob q => (only1.2 it (Ne.symm qn)).trans q, qn⟩, fun bb mb => ?_⟩
    · have up1 : ((i + 1 : Nat) : Int) = (i : Int) + 1 := by
        omega
      rw [up1]; exact he'
    · have below : bb < s.heap.objs.size := by
        have two : bb = e ∨ bb = it := by simpa using mb
        rcases two with rfl | rfl
        · exact le1
        · exact le2
      rw [upd_ne (Nat.ne_of_lt below)]
      exact (fp bb mb).1
  done := by
    intro X hP hw hK wc i pins s σ H E I fp here got
    subst hP hw hK
    obtain ⟨⟨prev, qe⟩, qi, qn⟩ := here
    obtain ⟨xs, wq, atx⟩ := got
    obtain ⟨cells, rds, p, szz⟩ := I.tuple wq
    obtain ⟨f0, f1, f2, f3, f4, f5⟩ := fp it (by simp)
    have hl := rds.length
    have ne2 : a ≠ it := by
      intro z
      obtain ⟨ob, wo, hc2, _⟩ := p
      obtain ⟨o2, ho2, hc3, _⟩ := qi
      rw [z, ho2] at wo
      cases wo
      rw [hc3] at hc2
      injection hc2 with q
      exact absurd q (by decide)
    refine enumT_end (I.ok.hd wc) qe qi p ne2 (by simp; omega) fun h' eb => ⟨rfl, I.turned (t' := s.toks) (fun bb ob mb q => eb bb ob mb q) f0 f1 f3 f4 f5⟩
  self := fun A i s Q E here h => let ⟨⟨_, qe⟩, _⟩ := here; wpAny_pyIter_enum qe h
def iEnumT (K : PySem.W.Frag) (ta : TA) : TI := fun σ H R => ta σ H fun vs H1 => ∃ a xs, vs = [.ref a] ∧ SqT K H1 a xs ∧ R (IteT K a) H1
theorem pi_enumT {X : Cx} {e : Expr} {ta : TA} {p pos tpos : Pos} {elts : List Expr} {kk : Nat} (got : Gl X "enumerate") (hm : X.mg "enumerate" = none) (ha : PA X [e] ta) (hs : starEach [e] X.env = [(false, eval e X.env)] := by rfl) :
    PI X (.Tuple elts kk tpos) (.Call (.Name "enumerate" p) [e] [] pos) (iEnumT X.K ta) := by
  constructor
  intro pins s σ H R I h
  refine Call_ (ld_blt I got hm boot_enumerate (PyProof.Rows.callWith_type1 (thn (ha.run pos pins s σ H _ I h) fun us s1 ⟨vs, H1, J1, r1, q1⟩ => ?_) hs rfl))
  obtain ⟨a, xs, ex, wq, q⟩ := q1
  subst ex
  cases r1 with
  | cons r rr =>
    cases rr
    cases r
    obtain ⟨cells, rds, p', szz⟩ := J1.tuple wq
    refine call_enumerate_tup p' fun h' qe qi hsz keep1 => wpAny_pyIter_enum qe ?_
    have J2 : Inv X pins σ H1 { s1 with heap := h' } := J1.kept (t' := s1.toks) keep1
    refine ⟨s1.heap.objs.size + 1, [s1.heap.objs.size + 1, s1.heap.objs.size], _, _, H1, rfl, J2, turn_enumT a (s1.heap.objs.size + 1) s1.heap.objs.size, ⟨⟨.none, qe⟩, qi, Nat.succ_ne_self _⟩, fun bb mb => ?_, q⟩
    have e' : bb = s1.heap.objs.size + 1 ∨ bb = s1.heap.objs.size := by simpa using mb
    have above : bb ≥ s1.heap.objs.size := by
      rcases e' with w9 | w9 <;> rw [w9]
      · exact Nat.le_succ _
      · exact Nat.le.refl
    exact J1.fpOk above (J1.hok.fresh above)
/-- enumerate of a list or of a tuple -/
theorem pi_or {X : Cx} {tg l : Expr} {w1 w2 : TI} (h1 : PI X tg l w1) (h2 : PI X tg l w2) : PI X tg l (fun σ H R => w1 σ H R ∨ w2 σ H R) := ⟨fun pins s σ H R I h => by
  rcases h with h | h
  · exact h1.run pins s σ H R I h
  · exact h2.run pins s σ H R I h⟩
end Vf

namespace Vf
open PySem L2 PySem.Spec PyProof.Rows
/-! ### rules with the written part named (inside a comprehension nothing may lean on its block) -/
section
variable {X : Cx} (K : PySem.W.Frag) {pos : Pos}
theorem ixL (hK : X.K = K := by rfl) : IxR X (rIxL K) := hK ▸ ix_list
theorem ixT (hK : X.K = K := by rfl) : IxR X (rIxT K) := hK ▸ ix_tup
theorem slL (hK : X.K = K := by rfl) : SlR X (rSlL K) := hK ▸ sl_list
theorem slT (hK : X.K = K := by rfl) : SlR X (rSlA K) := hK ▸ sl_tupA
theorem eqDK (hu : X.A.units + 64 < cLine) (hK : X.K = K := by rfl) : OpR X (compareOp .Eq) (rEqD K) := hK ▸ op_eqD hu
theorem neDK (hu : X.A.units + 64 < cLine) (hK : X.K = K := by rfl) : OpR X (compareOp .NotEq) (rNeD K) := hK ▸ op_neD hu
theorem inSK (hK : X.K = K := by rfl) : OpR X (compareOp .In) (rIn K false) := hK ▸ op_in_seq
theorem niSK (hK : X.K = K := by rfl) : OpR X (compareOp .NotIn) (rIn K true) := hK ▸ op_notIn_seq
theorem lenSK (hK : X.K = K := by rfl) : CallR X (.builtin "len") (fun xs H Q => ∃ p ys, xs = [.ref p] ∧ (SqL K H p ys ∨ SqT K H p ys) ∧ Q (.int (ys.length : Nat)) H) := hK ▸ call_len_seq
theorem lstOK (hK : X.K = K := by rfl) : CallR X (.type "list") (fun xs H Q => ∃ p ys, xs = [.ref p] ∧ (SqL K H p ys ∨ SqT K H p ys) ∧ ∀ l, H l = none → Q (.ref l) (upd H l (.lst ys))) := hK ▸ call_list_of
theorem isiK (hK : X.K = K := by rfl) : CallR X (.builtin "isinstance") (rIsi K) := hK ▸ call_isi
theorem pe_fldK {e : Expr} {f : Str} {ta : TE} (ha : PE X e ta) (hb : attributeBase e f X.env (eval e X.env) = eval e X.env := by rfl) (hK : X.K = K := by rfl) : PE X (.Attribute e f pos) (tFld K ta f) := hK ▸ pe_fld ha hb
theorem pg_tupK {es : List Expr} {k : Nat} {t : TGs} {n : Nat} (hc : X.calm = true) (h : PGs X es t)
    (hn : (assignEach es X.env).length = n := by rfl) (hst : (assignEach es X.env).findIdx? (·.1) = none := by rfl) (hK : X.K = K := by rfl) : PG X (.Tuple es k pos) (gTup K n t) := hK ▸ pg_tup hc h hn hst
end
/-! ### readings of these -/
section
variable {σ : L2.St} {H : Hp} {K : PySem.W.Frag} {ta tb : TE} {as : TA}
theorem e_iRevR {tr : L2.St → Hp → (Int → Int → Hp → Prop) → Prop} {R : It → Hp → Prop} (q : tr σ H fun a b H1 => -(2 ^ 62) ≤ a ∧ a < 2 ^ 62 ∧ -(2 ^ 62) ≤ b ∧ b < 2 ^ 62 ∧ R (Itc (a + (((b - a).toNat : Nat) : Int) - 1) (-1) (b - a).toNat) H1) : iRevR tr σ H R := q
theorem e_rg1 {Q : Int → Int → Hp → Prop} (q : ta σ H fun x H1 => ∃ n, x = .int n ∧ Q 0 n H1) : tRg1 ta σ H Q := q
theorem e_rg2 {Q : Int → Int → Hp → Prop} (q : ta σ H fun x H1 => tb σ H1 fun y H2 => ∃ i j, x = .int i ∧ y = .int j ∧ Q i j H2) : tRg2 ta tb σ H Q := q
theorem e_iEnum {R : It → Hp → Prop} (q : as σ H fun vs H1 => ∃ a xs, vs = [.ref a] ∧ SqL K H1 a xs ∧ R (Ite K a) H1) : iEnum K as σ H R := q
theorem e_iEnumT {R : It → Hp → Prop} (q : as σ H fun vs H1 => ∃ a xs, vs = [.ref a] ∧ SqT K H1 a xs ∧ R (IteT K a) H1) : iEnumT K as σ H R := q
theorem e_iRng3 {R : It → Hp → Prop} (q : as σ H fun vs H1 => ∃ (i j c : Int) (n : Nat), vs = [.int i, .int j, .int c] ∧ RgC i j c n ∧ R (Itc i c n) H1) : iRng3 as σ H R := q
theorem e_slL {Q : VK} {p : Addr} {xs : List V} {lo hi : Option Int} (h : SqL K H p xs) (q : ∀ r, H r = none → Q (.ref r) (upd H r (.lst (cutV xs lo hi)))) : rSlL K (.ref p) lo hi H Q := ⟨p, xs, rfl, h, q⟩
theorem e_app {Q : VK} {l : Addr} {xs : List V} {y : V} (h : H l = some (.lst xs)) (hz : xs.length < sizeLine) (q : Q .non (upd H l (.lst (xs ++ [y])))) : rAppend (.ref l) [y] H Q := ⟨l, xs, y, rfl, rfl, h, hz, q⟩
theorem e_ext {Q : VK} {l b : Addr} {xs zs : List V} (h : H l = some (.lst xs)) (hb : H b = some (.lst zs)) (hz : xs.length + zs.length ≤ sizeLine) (q : Q .non (upd H l (.lst (xs ++ zs)))) : rExtend (.ref l) [.ref b] H Q := ⟨l, b, xs, zs, rfl, rfl, h, hb, hz, q⟩
end
/-! ### rows of ints as data -/
abbrev Di (l : List Int) : List PyData := l.map PyData.int
theorem dpAll_ints {K : PySem.W.Frag} {H : Hp} : ∀ xs : List Int, DpAll K H (xs.map V.int) (Di xs)
  | [] => .nil
  | x :: r => .cons (.int x) (dpAll_ints r)
theorem eqvAll_ints : ∀ xs ys : List Int, PyData.eqvAll (Di xs) (Di ys) = decide (xs = ys)
  | [], [] => by
      simp [PyData.eqvAll]
  | [], _ :: _ => by
      simp [PyData.eqvAll]
  | _ :: _, [] => by
      simp [PyData.eqvAll]
  | x :: xs, y :: ys => by
    have ih := eqvAll_ints xs ys
    show (PyData.eqv (.int x) (.int y) && PyData.eqvAll (Di xs) (Di ys)) = _
    rw [ih]
    show ((x == y) && decide (xs = ys)) = decide (x :: xs = y :: ys)
    by_cases h : x = y
    · subst h; simp
    · simp [h]
theorem canAll_ints : ∀ xs : List Int, PyData.canLayAll0 (Di xs) = true
  | [] => rfl
  | x :: r => by
    show (PyData.canLay0 (.int x) && PyData.canLayAll0 (Di r)) = true
    rw [canAll_ints r]; rfl
theorem depthAll_ints : ∀ xs : List Int, PyData.depthAll (Di xs) = 0
  | [] => rfl
  | x :: r => by
    show max 0 (PyData.depthAll (Di r)) = 0
    rw [depthAll_ints r]; rfl
theorem shaped_list {ds : List PyData} (h1 : PyData.canLayAll0 ds = true) (h2 : PyData.depthAll ds ≤ 60) : SeqAt.shaped (.list ds) = true := by
  unfold SeqAt.shaped
  rw [show PyData.canLay0 (.list ds) = PyData.canLayAll0 ds from rfl, h1, show PyData.depth (.list ds) = PyData.depthAll ds + 1 from rfl]
  simp
  omega
theorem shaped_tuple {ds : List PyData} (h1 : PyData.canLayAll0 ds = true) (h2 : PyData.depthAll ds ≤ 60) : SeqAt.shaped (.tuple ds) = true := by
  unfold SeqAt.shaped
  rw [show PyData.canLay0 (.tuple ds) = PyData.canLayAll0 ds from rfl, h1, show PyData.depth (.tuple ds) = PyData.depthAll ds + 1 from rfl]
  simp
  omega
theorem shaped_li (xs : List Int) : SeqAt.shaped (.list (Di xs)) = true := shaped_list (canAll_ints xs) (by rw [depthAll_ints]; decide)
theorem shaped_ti (xs : List Int) : SeqAt.shaped (.tuple (Di xs)) = true := shaped_tuple (canAll_ints xs) (by rw [depthAll_ints]; decide)
section
variable {K : PySem.W.Frag} {H : Hp} {Q : VK} {a b : Addr} {xs ys : List Int}
theorem e_eqLL (h1 : SqL K H a (xs.map V.int)) (h2 : SqL K H b (ys.map V.int)) (q : Q (.bl (decide (xs = ys))) H) : rEqD K (.ref a) (.ref b) H Q :=
  ⟨_, _, .lst h1 (dpAll_ints xs), .lst h2 (dpAll_ints ys), shaped_li xs, shaped_li ys, by rw [show PyData.eqv (.list (Di xs)) (.list (Di ys)) = PyData.eqvAll (Di xs) (Di ys) from rfl, eqvAll_ints]; exact q⟩
theorem e_neLL (h1 : SqL K H a (xs.map V.int)) (h2 : SqL K H b (ys.map V.int)) (q : Q (.bl (!decide (xs = ys))) H) : rNeD K (.ref a) (.ref b) H Q :=
  ⟨_, _, .lst h1 (dpAll_ints xs), .lst h2 (dpAll_ints ys), shaped_li xs, shaped_li ys, by rw [show PyData.eqv (.list (Di xs)) (.list (Di ys)) = PyData.eqvAll (Di xs) (Di ys) from rfl, eqvAll_ints]; exact q⟩
theorem e_eqTT (h1 : SqT K H a (xs.map V.int)) (h2 : SqT K H b (ys.map V.int)) (q : Q (.bl (decide (xs = ys))) H) : rEqD K (.ref a) (.ref b) H Q :=
  ⟨_, _, .tup h1 (dpAll_ints xs), .tup h2 (dpAll_ints ys), shaped_ti xs, shaped_ti ys, by rw [show PyData.eqv (.tuple (Di xs)) (.tuple (Di ys)) = PyData.eqvAll (Di xs) (Di ys) from rfl, eqvAll_ints]; exact q⟩
theorem e_neTT (h1 : SqT K H a (xs.map V.int)) (h2 : SqT K H b (ys.map V.int)) (q : Q (.bl (!decide (xs = ys))) H) : rNeD K (.ref a) (.ref b) H Q :=
  ⟨_, _, .tup h1 (dpAll_ints xs), .tup h2 (dpAll_ints ys), shaped_ti xs, shaped_ti ys, by rw [show PyData.eqv (.tuple (Di xs)) (.tuple (Di ys)) = PyData.eqvAll (Di xs) (Di ys) from rfl, eqvAll_ints]; exact q⟩
end
/-! ### the order of alike data -/
def rLtD (K : PySem.W.Frag) : R2 := fun x y H Q => ∃ d e, Dp K H x d ∧ Dp K H y e ∧ PySem.W.alike d e = true ∧ d ≠ .none ∧ d.depth ≤ 60 ∧ Q (.bl (PySem.W.dataLt d e)) H
def rGtD (K : PySem.W.Frag) : R2 := fun x y H Q => ∃ d e, Dp K H x d ∧ Dp K H y e ∧ PySem.W.alike d e = true ∧ d ≠ .none ∧ d.depth ≤ 60 ∧ Q (.bl (PySem.W.dataLt e d)) H
theorem op_ltD {X : Cx} (hu : X.A.units + 64 < cLine) : OpR X (compareOp .Lt) (rLtD X.K) := by
  intro pins s σ H x y v u C I rx ry hq
  obtain ⟨d, e, hd, he, sd, se, hp, q⟩ := hq
  obtain ⟨toks1, r1⟩ := Dp.reads I d x v hd rx
  obtain ⟨toks2, r2⟩ := Dp.reads I e y u he ry
  exact PySem.W.lt_data r1 r2 sd se (by have := Nat.min_le_left d.depth e.depth; omega) ⟨.bl _, H, I, rfl, q⟩
theorem op_gtD {X : Cx} (hu : X.A.units + 64 < cLine) : OpR X (compareOp .Gt) (rGtD X.K) := by
  intro pins s σ H x y v u C I rx ry hq
  obtain ⟨d, e, hd, he, sd, se, hp, q⟩ := hq
  obtain ⟨toks1, r1⟩ := Dp.reads I d x v hd rx
  obtain ⟨toks2, r2⟩ := Dp.reads I e y u he ry
  exact PySem.W.gt_data r1 r2 sd se (by have := Nat.min_le_left d.depth e.depth; omega) ⟨.bl _, H, I, rfl, q⟩
theorem alikeAll_ints : ∀ xs ys : List Int, PySem.W.alikeAll (Di xs) (Di ys) = true
  | [], _ => by simp [PySem.W.alikeAll]
  | _ :: _, [] => by simp [PySem.W.alikeAll]
  | x :: xs, y :: ys => by
    show (PySem.W.alike (.int x) (.int y) && PySem.W.alikeAll (Di xs) (Di ys)) = true
    rw [alikeAll_ints xs ys]; rfl
theorem lt_ints : ∀ xs ys : List Int, PyProof.Rows.lexLt PyProof.Rows.itemOrd (PySem.W.keyToksAll (Di xs)) (PySem.W.keyToksAll (Di ys)) = HT.lexLt xs ys
  | [], [] => by decide
  | [], y :: ys => by
    show PyProof.Rows.lexLt PyProof.Rows.itemOrd [.inl 0] (.inl 1 :: _) = true
    rw [PySem.W.lex_atom (by decide)]
    decide
  | x :: xs, [] => by
    show PyProof.Rows.lexLt PyProof.Rows.itemOrd (.inl 1 :: _) [.inl 0] = false
    rw [PySem.W.lex_atom (by decide)]
    decide
  | x :: xs, y :: ys => by
    have ih := lt_ints xs ys
    show _ = if x = y then HT.lexLt xs ys else decide (x < y)
    by_cases h : x = y
    · subst h
      rw [if_pos rfl, ← ih]
      exact PySem.W.dataLt_all_yes (x := .int x) (y := .int x) rfl (by simp [PyData.eqv])
    · rw [if_neg h, ← PySem.W.dataLt_int x y]
      exact PySem.W.dataLt_all_no (x := .int x) (y := .int y) rfl (by simpa [PyData.eqv] using h)
theorem e_ltLL {K : PySem.W.Frag} {H : Hp} {Q : VK} {a b : Addr} {xs ys : List Int} (h1 : SqL K H a (xs.map V.int)) (h2 : SqL K H b (ys.map V.int)) (q : Q (.bl (HT.lexLt xs ys)) H) : rLtD K (.ref a) (.ref b) H Q :=
  ⟨_, _, .lst h1 (dpAll_ints xs), .lst h2 (dpAll_ints ys), alikeAll_ints xs ys, by simp, by show PyData.depthAll (Di xs) + 1 ≤ 60; rw [depthAll_ints]; decide, by
    rw [PySem.W.dataLt_list, lt_ints]; exact q⟩
/-! ### loops over rows of ints -/
theorem at_split {ns : List Int} {i : Nat} {x : V} (hx : (ns.map V.int)[i]? = some x) : ∃ y, x = .int y ∧ ns = ns.take i ++ y :: ns.drop (i + 1) ∧ ns.take (i + 1) = ns.take i ++ [y] := by
  rw [List.getElem?_map] at hx
  cases e : ns[i]? with
  | none => rw [e] at hx; cases hx
  | some y =>
    rw [e] at hx
    have e2 := (List.getElem?_eq_some_iff.mp e).2
    refine ⟨y, (Option.some.inj hx).symm, ?_, by rw [List.take_add_one, e]; rfl⟩
    rw [← e2, List.getElem_cons_drop, List.take_append_drop]
section
variable {K : PySem.W.Frag} {g : TG} {t : TS} {D : Ends} {σ : L2.St} {H : Hp} {tt : TT} {te : TE} {vs : List Nat} {Q : VK} {Da a : Addr} {ns : List Int}
theorem for_ints (Pv : List Int → L2.St → Hp → Prop) (h0 : Pv [] σ H) (hl : ∀ pre σ H, Pv pre σ H → SqL K H a (ns.map V.int))
    (hs : ∀ (pre : List Int) (x : Int) (post : List Int) σ H, ns = pre ++ x :: post → Pv pre σ H → g (.int x) σ H fun σ2 H2 => t { D with nx := Pv (pre ++ [x]), ct := Pv (pre ++ [x]), bk := D.nx } σ2 H2)
    (hd : ∀ σ H, Pv ns σ H → D.nx σ H) : ForB (Itl K a) g t D σ H := by
  refine for_list (xs := ns.map V.int) (fun i => Pv (ns.take i)) (by simpa using h0) (fun i σ H _ p => hl _ σ H p) (fun i x σ H hx p => ?_) (fun σ H p => ?_)
  · obtain ⟨y, rfl, e1, e2⟩ := at_split hx
    rw [e2]
    exact hs _ y _ σ H e1 p
  · rw [List.length_map, List.take_length] at p
    exact hd σ H p
theorem for_intsT (Pv : List Int → L2.St → Hp → Prop) (h0 : Pv [] σ H) (hl : ∀ pre σ H, Pv pre σ H → SqT K H a (ns.map V.int))
    (hs : ∀ (pre : List Int) (x : Int) (post : List Int) σ H, ns = pre ++ x :: post → Pv pre σ H → g (.int x) σ H fun σ2 H2 => t { D with nx := Pv (pre ++ [x]), ct := Pv (pre ++ [x]), bk := D.nx } σ2 H2)
    (hd : ∀ σ H, Pv ns σ H → D.nx σ H) : ForB (Itt K a) g t D σ H := by
  refine for_tup (xs := ns.map V.int) (fun i => Pv (ns.take i)) (by simpa using h0) (fun i σ H _ p => hl _ σ H p) (fun i x σ H hx p => ?_) (fun σ H p => ?_)
  · obtain ⟨y, rfl, e1, e2⟩ := at_split hx
    rw [e2]
    exact hs _ y _ σ H e1 p
  · rw [List.length_map, List.take_length] at p
    exact hd σ H p
theorem walk_enumT {xs : List V} : Walk (IteT K a) xs.length (fun H => SqT K H a xs) (YPair (fun i => some (.int (i : Nat))) (fun i => xs[i]?)) := by
  refine ⟨fun i _ hi q => ⟨xs, xs[i], q, by simp [hi]⟩,
    fun _ q => ⟨xs, q, Nat.le_refl _⟩, fun i H v H' _ q y => ?_⟩
  obtain ⟨T, x, g1, g2, g3, g4⟩ := y
  exact ⟨T, .int (i : Nat), x, g1, g2, g3, rfl, g4 xs q⟩
theorem for_enumI (Pv : List Int → L2.St → Hp → Prop) (h0 : Pv [] σ H) (hl : ∀ pre σ H, Pv pre σ H → SqL K H a (ns.map V.int))
    (hs : ∀ (pre : List Int) (x : Int) (post : List Int) (T : Addr) σ H, ns = pre ++ x :: post → Pv pre σ H → H T = none → g (.ref T) σ (upd H T (.tup [.int (pre.length : Nat), .int x])) fun σ2 H2 => t { D with nx := Pv (pre ++ [x]), ct := Pv (pre ++ [x]), bk := D.nx } σ2 H2)
    (hd : ∀ σ H, Pv ns σ H → D.nx σ H) : ForB (Ite K a) g t D σ H := by
  refine for_it (walk_enum (xs := ns.map V.int)) (fun i => Pv (ns.take i)) (by simpa using h0) (fun i σ H _ p => hl _ σ H p) (fun i x σ H H' hi p y => ?_) (fun σ H p => ?_)
  · obtain ⟨T, u, v, rfl, hT, rfl, hu, hv⟩ := y
    obtain ⟨z, rfl, e1, e2⟩ := at_split hv
    cases (Option.some.inj hu)
    rw [e2]
    have hl : (ns.take i).length = i := by rw [List.length_map] at hi; rw [List.length_take]; omega
    have q := hs (ns.take i) z _ T σ H e1 p hT
    rw [hl] at q
    exact q
  · rw [List.length_map, List.take_length] at p
    exact hd σ H p
theorem for_enumIT (Pv : List Int → L2.St → Hp → Prop) (h0 : Pv [] σ H) (hl : ∀ pre σ H, Pv pre σ H → SqT K H a (ns.map V.int))
    (hs : ∀ (pre : List Int) (x : Int) (post : List Int) (T : Addr) σ H, ns = pre ++ x :: post → Pv pre σ H → H T = none → g (.ref T) σ (upd H T (.tup [.int (pre.length : Nat), .int x])) fun σ2 H2 => t { D with nx := Pv (pre ++ [x]), ct := Pv (pre ++ [x]), bk := D.nx } σ2 H2)
    (hd : ∀ σ H, Pv ns σ H → D.nx σ H) : ForB (IteT K a) g t D σ H := by
  refine for_it (walk_enumT (xs := ns.map V.int)) (fun i => Pv (ns.take i)) (by simpa using h0) (fun i σ H _ p => hl _ σ H p) (fun i x σ H H' hi p y => ?_) (fun σ H p => ?_)
  · obtain ⟨T, u, v, rfl, hT, rfl, hu, hv⟩ := y
    obtain ⟨z, rfl, e1, e2⟩ := at_split hv
    cases (Option.some.inj hu)
    rw [e2]
    have hl : (ns.take i).length = i := by rw [List.length_map] at hi; rw [List.length_take]; omega
    have q := hs (ns.take i) z _ T σ H e1 p hT
    rw [hl] at q
    exact q
  · rw [List.length_map, List.take_length] at p
    exact hd σ H p
/-- [e for k in range(a, b, c)], e a function of the turn -/
theorem lc_map_rngC {lo c : Int} {n : Nat} {H0 : Hp} (hD : H0 Da = none) (hn : n ≤ 1000000) (f : Nat → V)
    (hs : ∀ (i : Nat) (H2 : Hp) (C : VK) (E : Hp → Prop), i < n → Same H0 H2 → (∀ H3, Same H2 H3 → C (f i) H3) →
      g (.int (lo + (i : Nat) * c)) (wipe σ vs) H2 fun σ2 H2 => wipe σ2 vs = wipe σ vs ∧ tYes σ2 H2 fun b H3 => if b = true then te σ2 H3 C else E H3)
    (hd : ∀ (H : Hp), Same H0 H → H Da = some (.lst ((List.range n).map f)) → Q (.ref Da) H) : LcB (Itc lo c n) g tYes te vs σ Da H0 Q := by
  refine lc_it walk_rangeC (fun i H2 => Same H0 H2 ∧ H2 Da = some (.lst ((List.range i).map f))) ⟨same_new hD, upd_same⟩ (fun _ _ _ _ => trivial) (fun i x H2 H' hi p y => ?_) (fun H2 p => hd H2 p.1 p.2)
  obtain ⟨rfl, rfl⟩ := y
  obtain ⟨k4, e4⟩ := p
  refine hs i _ _ _ hi k4 fun H3 k5 => ?_
  refine ⟨_, k5 _ _ e4, Nat.lt_of_le_of_lt (by simp; omega : _ ≤ 1000000) (by decide), Same.mut (k4.trans k5) hD, ?_⟩
  rw [upd_same, List.range_succ, List.map_append]
  rfl
end
theorem i_bneself {b : Bool} {A B : Prop} (h : B) : if (b != b) = true then A else B := by
  have e : (b != b) = false := by cases b <;> rfl
  rw [e]; exact i_F h
theorem i_beself {b : Bool} {A B : Prop} (h : A) : if (b == b) = true then A else B := by
  rw [beq_self_eq_true]; exact i_T h
/-! ### a list or a tuple -/
/-- a row of values, a list's or a tuple's -/
abbrev SqE (K : PySem.W.Frag) (H : Hp) (p : Addr) (xs : List V) : Prop := SqL K H p xs ∨ SqT K H p xs
theorem Same.seqE {K : PySem.W.Frag} {H H' : Hp} {a : Addr} {xs : List V} (e : Same H H') (h : SqE K H a xs) : SqE K H' a xs := by
  rcases h with h | h
  · exact .inl (e.seq h)
  · refine .inr ?_
    rcases h with (h | ⟨c9, h⟩) | h
    · exact .inl (.inl (e _ _ h))
    · exact .inl (.inr ⟨c9, e _ _ h⟩)
    · exact .inr h
theorem e_ixE {K : PySem.W.Frag} {H : Hp} {Q : VK} {p : Addr} {xs : List V} {i : Int} {v : V} (h : SqE K H p xs) (ha : atI xs i = some v) (q : Q v H) : rIxL K (.ref p) (.int i) H Q ∨ rIxT K (.ref p) (.int i) H Q := by
  rcases h with h | h
  · exact .inl (e_ixL h ha q)
  · exact .inr (e_ixT h ha q)
/-- a list of the turn's values, over a list -/
theorem lc_map_lstI {K : PySem.W.Frag} {g : TG} {te : TE} {vs : List Nat} {σ : L2.St} {Da a : Addr} {H0 : Hp} {Q : VK} {xs : List V} (hS : SqL K H0 a xs) (hD : H0 Da = none) (hn : xs.length ≤ 1000000) (f : Nat → V)
    (hs : ∀ (i : Nat) (x : V) (H2 : Hp) (C : VK) (E : Hp → Prop), xs[i]? = some x → Same H0 H2 → (∀ H3, Same H2 H3 → C (f i) H3) →
      g x (wipe σ vs) H2 fun σ2 H2 => wipe σ2 vs = wipe σ vs ∧ tYes σ2 H2 fun b H3 => if b = true then te σ2 H3 C else E H3)
    (hd : ∀ (H : Hp), Same H0 H → H Da = some (.lst ((List.range xs.length).map f)) → Q (.ref Da) H) : LcB (Itl K a) g tYes te vs σ Da H0 Q := by
  refine lc_list (xs := xs) (fun i H2 => Same H0 H2 ∧ H2 Da = some (.lst ((List.range i).map f))) ⟨same_new hD, upd_same⟩ (fun i H2 _ p => p.1.seq hS) (fun i x H2 hx p => ?_) (fun H2 p => hd H2 p.1 p.2)
  obtain ⟨k4, e4⟩ := p
  have hi := (List.getElem?_eq_some_iff.mp hx).1
  refine hs i x H2 _ _ hx k4 fun H3 k5 => ?_
  refine ⟨_, k5 _ _ e4, Nat.lt_of_le_of_lt (by rw [List.length_map, List.length_range]; omega : _ ≤ 1000000) (by decide), Same.mut (k4.trans k5) hD, ?_⟩
  rw [upd_same, List.range_succ, List.map_append]
  rfl
end Vf

namespace Vf
open PySem L2 PySem.Spec PyProof.Rows
/-- a plain tuple of pairs: made by tuple(list), or by an update -/
def PlT (H : Hp) (a : Addr) (xs : List V) : Prop := ∃ o : Obj, o.dict = none ∧ H a = some (.frz o (.tup xs))
theorem PlT.seq {K : PySem.W.Frag} {H : Hp} {a : Addr} {xs : List V} (h : PlT H a xs) : SqT K H a xs := by
  obtain ⟨o, _, e⟩ := h
  exact .inl (.inr ⟨o, e⟩)
theorem PlT.same {H H' : Hp} {a : Addr} {xs : List V} (h : PlT H a xs) (e : Same H H') : PlT H' a xs := by
  obtain ⟨o, d, q⟩ := h
  exact ⟨o, d, e _ _ q⟩
theorem uvs_of {X : Cx} {pins : List (Addr × Obj)} {σ : L2.St} {H : Hp} {s : Shared} (I : Inv X pins σ H s) : ∀ {ps : List Addr} {kvs : List (Key × V)}, Paired (fun p kv => SqT X.K H p [kV kv.1, kv.2]) ps kvs →
    ∃ (prs : List (Key × Value)) (uvs : List (Value × Value)), KV kvs prs ∧ prs.length = ps.length ∧ uvs.length = ps.length ∧
      ∀ (j : Nat) (u y : Value), uvs[j]? = some (u, y) → ∃ (b : Addr) (k : Key), ps[j]? = some b ∧ PairAt s.heap b u y ∧ prs[j]? = some (k, y) ∧ keyIs k u = true
  | _, _, .nil => ⟨[], [], .nil, rfl, rfl, fun j u y e => by simp at e⟩
  | _, _, .cons (a := p) (b := kv) h t => by
    obtain ⟨prs, uvs, r, l1, l2, q⟩ := uvs_of I t
    obtain ⟨its, rv, ht, _⟩ := I.tuple h
    obtain ⟨u, y, rfl, ru, ry⟩ := vals2 rv
    refine ⟨(kv.1, y) :: prs, (u, y) :: uvs, .cons ⟨rfl, ry⟩ r, by simp [l1], by simp [l2], fun j u' y' e => ?_⟩
    cases j with
    | zero =>
      cases (Option.some.inj e)
      exact ⟨p, kv.1, rfl, .inl ht, rfl, kV_is (P := X.prog) (w := X.w) ru⟩
    | succ j =>
      obtain ⟨b, k, e1, e2, e3, e4⟩ := q j u' y' (by simpa using e)
      exact ⟨b, k, by simpa using e1, e2, by simpa using e3, e4⟩
theorem refs_of : ∀ {ps : List Addr} {us : List Value}, Vals (ps.map V.ref) us → us = ps.map Value.ref
  | [], _, .nil => rfl
  | p :: ps, _, .cons h t => by
    cases h
    rw [refs_of t]
    rfl
/-- dict(t), t a plain tuple of pairs -/
theorem call_dictPT {X : Cx} (hcalm : X.calm = true) : CallR X (.type "dict") (fun xs H Q => ∃ (a : Addr) (ps : List Addr) (kvs : List (Key × V)), xs = [.ref a] ∧ PlT H a (ps.map V.ref) ∧ Paired (fun p kv => SqT X.K H p [kV kv.1, kv.2]) ps kvs ∧
    ∀ p, H p = none → Q (.ref p) (upd H p (.dK (mergeK [] kvs)))) := by
  intro pins s σ H xs us Q I r q
  obtain ⟨a, ps, kvs, rfl, ⟨o, hd, ea⟩, hp, q⟩ := q
  obtain ⟨u, rfl, rx⟩ := vals1 r
  cases rx
  obtain ⟨ho, hz, its, rv, o2, ho2, hc, n, hdat⟩ := (show ObjOk X.prog X.w H s.heap a (.frz o (.tup (ps.map V.ref))) from I.hok a _ ea)
  rw [ho] at ho2
  cases (Option.some.inj ho2)
  have ei := refs_of rv
  subst ei
  rw [List.length_map] at hz
  obtain ⟨prs, uvs, rel, l1, l2, hq⟩ := uvs_of I hp
  have ok : PlainSeq "tuple" s.heap a (ps.map Value.ref).toArray ∧ PairItems s.heap (ps.map Value.ref).toArray (fun j => ps.getD j 0) uvs := by
    refine ⟨⟨o, n, ho, hc, hd, hdat⟩, by simp [l2], fun j k v hj => ?_⟩
    obtain ⟨b, key, e1, e2, _, _⟩ := hq j k v hj
    have e5 : ps.getD j 0 = b := by rw [List.getD_eq_getElem?_getD, e1]; rfl
    show _ ∧ PairAt s.heap (ps.getD j 0) k v
    rw [e5]
    exact ⟨by simp [e1], e2⟩
  refine PySem.call_dict_pairs (knd := mixKind X.prog X.w) (kvs := prs) (PairArg.tuple a (ps.map Value.ref).toArray (fun j => ps.getD j 0) uvs) (I.ok.hd hcalm) ok ⟨by rw [l1, l2], fun i key v hr => ?_⟩ (by rw [l2]; exact hz) fun h' tk hd' k => ?_
  · obtain ⟨b, k, _, _, e3, e4⟩ := hq i key v hr
    exact ⟨k, e3, e4⟩
  · have hm : (s.heap.objs.size == sysModules) = false := beq_eq_false_iff_ne.mpr (Nat.ne_of_gt I.big)
    have hlen : (mergeK [] kvs).length ≤ sizeLine := by
      have h1 := length_mergeK kvs []
      have h2 := rel.length
      rw [List.length_nil] at h1
      omega
    exact ⟨.ref s.heap.objs.size, upd H s.heap.objs.size (.dK (mergeK [] kvs)), I.laid (t' := tk) (fun b ob e => k b ob (by simp) e) (Nat.le_refl _) (show ObjOk X.prog X.w _ _ _ (.dK (mergeK [] kvs)) from ⟨hlen, hm, merged [] prs, KV.merge rel .nil, hd'⟩), rfl, q _ (I.hok.fresh (Nat.le_refl _))⟩
/-- tuple(l), l a list: a plain tuple -/
theorem call_tupleF {X : Cx} : CallR X (.type "tuple") (fun xs H Q => ∃ p ys, xs = [.ref p] ∧ SqL X.K H p ys ∧ ∀ l H', H l = none → Same H H' → PlT H' l ys → (∀ b, b ≠ l → H' b = H b) → Q (.ref l) H') := by
  intro pins s σ H xs us Q I r q
  obtain ⟨p, ys, rfl, hq, q⟩ := q
  obtain ⟨u, rfl, rx⟩ := vals1 r
  cases rx
  obtain ⟨its, rv, pl, hz⟩ := I.list hq
  have hlen := rv.length
  refine call_tuple_list pl.isList (fun h' kp => ?_) (by simp only [List.size_toArray] <;> omega)
  have J1 : Inv X pins σ H { s with heap := h' } := I.kept (t' := s.toks) kp
  have hfr := J1.hok.fresh (Nat.le_refl _)
  have J2 : Inv X pins σ (upd H h'.objs.size (.frz { cls := .type "tuple", data := .seq its.toArray } (.tup ys))) { s with heap := h'.push { cls := .type "tuple", data := .seq its.toArray } } :=
    J1.laid (t' := s.toks) (fun b ob e => Heap.get?_push_of_some _ e) (Nat.le_refl _) ⟨Heap.get?_push_size _ rfl, hz, its, rv, IsTup.new _ _⟩
  exact ⟨.ref h'.objs.size, _, J2, rfl, q _ _ hfr (same_new hfr) ⟨_, rfl, upd_same⟩ fun b hb => upd_ne hb⟩
theorem tupFK (K : PySem.W.Frag) {X : Cx} (hK : X.K = K := by rfl) : CallR X (.type "tuple") (fun xs H Q => ∃ p ys, xs = [.ref p] ∧ SqL K H p ys ∧ ∀ l H', H l = none → Same H H' → PlT H' l ys → (∀ b, b ≠ l → H' b = H b) → Q (.ref l) H') := hK ▸ call_tupleF
end Vf

namespace Vk01
open PySem PySem.Spec PyProof.Rows L2 Vf
def topS (i : Nat) : Stmt := PySem.Challenge.pw_folderkin_k01_vectors.main.body.getD i (.Pass ⟨0, 0, 0, 0⟩)
abbrev s_count_of : Stmt := topS 1
abbrev N_count_of : List Str := ["vector", "device", "known", "count"]
theorem sc_count_of : FnScope N_count_of ["vector", "device"] (defScope s_count_of) := ⟨rfl, rfl, rfl, by decide +kernel, rfl, by decide +kernel, by decide +kernel⟩
abbrev s_compare : Stmt := topS 2
abbrev N_compare : List Str := ["first", "second", "less", "greater"]
theorem sc_compare : FnScope N_compare ["first", "second"] (defScope s_compare) := ⟨rfl, rfl, rfl, by decide +kernel, rfl, by decide +kernel, by decide +kernel⟩
abbrev s_is_less_somewhere : Stmt := topS 3
abbrev N_is_less_somewhere : List Str := ["first", "second", "device", "count"]
theorem sc_is_less_somewhere : FnScope N_is_less_somewhere ["first", "second"] (defScope s_is_less_somewhere) := ⟨rfl, rfl, rfl, by decide +kernel, rfl, by decide +kernel, by decide +kernel⟩
abbrev s_join : Stmt := topS 4
abbrev N_join : List Str := ["first", "second", "counts", "device", "count"]
theorem sc_join : FnScope N_join ["first", "second"] (defScope s_join) := ⟨rfl, rfl, rfl, by decide +kernel, rfl, by decide +kernel, by decide +kernel⟩
abbrev s_raised : Stmt := topS 5
abbrev N_raised : List Str := ["vector", "device", "number", "counts"]
theorem sc_raised : FnScope N_raised ["vector", "device", "number"] (defScope s_raised) := ⟨rfl, rfl, rfl, by decide +kernel, rfl, by decide +kernel, by decide +kernel⟩
abbrev s_vector : Stmt := topS 6
abbrev N_vector : List Str := ["counts", "device"]
theorem sc_vector : FnScope N_vector ["counts"] (defScope s_vector) := ⟨rfl, rfl, rfl, by decide +kernel, rfl, by decide +kernel, by decide +kernel⟩
abbrev s_counts_of : Stmt := topS 7
abbrev N_counts_of : List Str := ["vector", "device"]
theorem sc_counts_of : FnScope N_counts_of ["vector"] (defScope s_counts_of) := ⟨rfl, rfl, rfl, by decide +kernel, rfl, by decide +kernel, by decide +kernel⟩
abbrev s_law_cell : Stmt := topS 9
abbrev N_law_cell : List Str := ["script", "k"]
theorem sc_law_cell : FnScope N_law_cell ["script", "k"] (defScope s_law_cell) := ⟨rfl, rfl, rfl, by decide +kernel, rfl, by decide +kernel, by decide +kernel⟩
abbrev s_law_vector : Stmt := topS 10
abbrev N_law_vector : List Str := ["cell", "most", "pairs", "device"]
theorem sc_law_vector : FnScope N_law_vector ["cell", "most"] (defScope s_law_vector) := ⟨rfl, rfl, rfl, by decide +kernel, rfl, by decide +kernel, by decide +kernel⟩
abbrev s_law_counts : Stmt := topS 11
abbrev N_law_counts : List Str := ["vector", "counts", "device", "count"]
theorem sc_law_counts : FnScope N_law_counts ["vector"] (defScope s_law_counts) := ⟨rfl, rfl, rfl, by decide +kernel, rfl, by decide +kernel, by decide +kernel⟩
abbrev s_law_due : Stmt := topS 12
abbrev N_law_due : List Str := ["first", "second", "less", "more", "k"]
theorem sc_law_due : FnScope N_law_due ["first", "second"] (defScope s_law_due) := ⟨rfl, rfl, rfl, by decide +kernel, rfl, by decide +kernel, by decide +kernel⟩
abbrev s_law_made : Stmt := topS 13
abbrev N_law_made : List Str := ["counts", "k"]
theorem sc_law_made : FnScope N_law_made ["counts"] (defScope s_law_made) := ⟨rfl, rfl, rfl, by decide +kernel, rfl, by decide +kernel, by decide +kernel⟩
abbrev s_law : Stmt := topS 14
abbrev N_law : List Str := ["script", "turn", "first", "second", "cell", "a", "b", "device", "number", "k"]
theorem sc_law : FnScope N_law ["script"] (defScope s_law) := ⟨rfl, rfl, rfl, by decide +kernel, rfl, by decide +kernel, by decide +kernel⟩
structure Txt (K : PySem.W.Frag) (mg : Str → Option Value) : Prop where
  f_dict : mg "dict" = none
  f_int : mg "int" = none
  f_len : mg "len" = none
  f_max : mg "max" = none
  f_range : mg "range" = none
  f_sorted : mg "sorted" = none
  f_tuple : mg "tuple" = none
theorem same_tup {K : PySem.W.Frag} {H H' : Hp} {a : Addr} {xs : List V} (e : Same H H') (h : SqT K H a xs) : SqT K H' a xs := by
  rcases h with (h | ⟨o, h⟩) | h
  · exact .inl (.inl (e _ _ h))
  · exact .inl (.inr ⟨o, e _ _ h⟩)
  · exact .inr h
abbrev Vc := List (Int × Int)
def cnt : Vc → Int → Int
  | [], _ => 0
  | c :: r, d => if c.1 = d then c.2 else cnt r d
def madeN (n : Nat) (f : Nat → Int) : Vc := ((List.range n).filter fun k => decide (0 < f k)).map fun k => (((k : Nat) : Int) + 1, f k)
abbrev made (f : Nat → Int) : Vc := madeN 9 f
theorem madeN_succ (n : Nat) (f : Nat → Int) : madeN (n + 1) f = madeN n f ++ (if 0 < f n then [(((n : Nat) : Int) + 1, f n)] else []) := by
  unfold madeN
  rw [List.range_succ, List.filter_append, List.map_append]
  by_cases h : 0 < f n
  · rw [if_pos h, List.filter_cons_of_pos (by rw [decide_eq_true h])]; rfl
  · rw [if_neg h, List.filter_cons_of_neg (by rw [decide_eq_false h]; exact Bool.false_ne_true)]; rfl
theorem madeN_mem {n : Nat} {f : Nat → Int} {c : Int × Int} (h : c ∈ madeN n f) : ∃ k : Nat, k < n ∧ c = (((k : Nat) : Int) + 1, f k) ∧ 0 < f k := by
  obtain ⟨k, hk, rfl⟩ := List.mem_map.mp h
  obtain ⟨h1, h2⟩ := List.mem_filter.mp hk
  exact ⟨k, List.mem_range.mp h1, rfl, of_decide_eq_true h2⟩
theorem cnt_app_ne {u : Vc} {c : Int × Int} {d : Int} (h : ¬ c.1 = d) : cnt (u ++ [c]) d = cnt u d := by
  induction u with
  | nil => show (if c.1 = d then _ else _) = _; rw [if_neg h]
  | cons x r ih => show (if x.1 = d then _ else cnt (r ++ [c]) d) = if x.1 = d then _ else _; rw [ih]
theorem cnt_app_out {u w : Vc} {d : Int} (h : ∀ c ∈ u, ¬ c.1 = d) : cnt (u ++ w) d = cnt w d := by
  induction u with
  | nil => rfl
  | cons x r ih =>
    show (if x.1 = d then _ else cnt (r ++ w) d) = _
    rw [if_neg (h x (List.mem_cons_self ..)), ih fun c hc => h c (List.mem_cons_of_mem _ hc)]
theorem cnt_madeN {f : Nat → Int} (hf : ∀ k, 0 ≤ f k) (k : Nat) : ∀ n, cnt (madeN n f) (((k : Nat) : Int) + 1) = if k < n then f k else 0
  | 0 => by rw [if_neg (by omega)]; rfl
  | n + 1 => by
    have ih := cnt_madeN hf k n
    rw [madeN_succ]
    by_cases h : k = n
    · subst h
      rw [if_pos (show k < k + 1 by omega), cnt_app_out fun c hc => ?_]
      · by_cases h0 : 0 < f k
        · rw [if_pos h0]
          show (if ((k : Nat) : Int) + 1 = ((k : Nat) : Int) + 1 then f k else 0) = _
          rw [if_pos rfl]
        · rw [if_neg h0]; have := hf k; show (0 : Int) = _; omega
      · obtain ⟨j, hj, rfl, _⟩ := madeN_mem hc
        show ¬ ((j : Nat) : Int) + 1 = _
        omega
    · have e : (if k < n + 1 then f k else 0) = if k < n then f k else 0 := by
        by_cases h2 : k < n
        · rw [if_pos h2, if_pos (by omega)]
        · rw [if_neg h2, if_neg (by omega)]
      rw [e, ← ih]
      by_cases h0 : 0 < f n
      · rw [if_pos h0, cnt_app_ne (by show ¬ ((n : Nat) : Int) + 1 = _; omega)]
      · rw [if_neg h0, List.append_nil]
theorem cnt_made {f : Nat → Int} (hf : ∀ k, 0 ≤ f k) {k : Nat} (hk : k < 9) : cnt (made f) (((k : Nat) : Int) + 1) = f k := by
  rw [cnt_madeN hf, if_pos hk]
/-- the last that was told, along a row -/
def told (g : Int → Int → Int) (v : Vc) (d i : Int) : Int := v.foldl (fun acc c => if c.1 = d then g c.2 acc else acc) i
theorem told_app (g : Int → Int → Int) (u w : Vc) (d i : Int) : told g (u ++ w) d i = told g w d (told g u d i) := by
  unfold told; rw [List.foldl_append]
theorem told_one (g : Int → Int → Int) (c : Int × Int) (d i : Int) : told g [c] d i = if c.1 = d then g c.2 i else i := rfl
theorem told_madeN (g : Int → Int → Int) {f : Nat → Int} (k : Nat) (i : Int) : ∀ n, told g (madeN n f) (((k : Nat) : Int) + 1) i = if k < n ∧ 0 < f k then g (f k) i else i
  | 0 => by rw [if_neg (by omega)]; rfl
  | n + 1 => by
    have ih := told_madeN g (f := f) k i n
    rw [madeN_succ, told_app, ih]
    by_cases h0 : 0 < f n
    · rw [if_pos h0, told_one]
      by_cases h : k = n
      · subst h
        show (if ((k : Nat) : Int) + 1 = _ then _ else _) = _
        rw [if_pos rfl, if_neg (show ¬ (k < k ∧ 0 < f k) by omega), if_pos ⟨by omega, h0⟩]
      · show (if ((n : Nat) : Int) + 1 = _ then _ else _) = _
        rw [if_neg (by omega)]
        by_cases h2 : k < n ∧ 0 < f k
        · rw [if_pos h2, if_pos ⟨by omega, h2.2⟩]
        · rw [if_neg h2, if_neg (by omega)]
    · rw [if_neg h0]
      show (if k < n ∧ 0 < f k then g (f k) i else i) = _
      by_cases h2 : k < n ∧ 0 < f k
      · rw [if_pos h2, if_pos ⟨by omega, h2.2⟩]
      · by_cases h : k = n
        · subst h
          rw [if_neg h2, if_neg (by omega)]
        · rw [if_neg h2, if_neg (by omega)]
theorem last_made {f : Nat → Int} (hf : ∀ k, 0 ≤ f k) {k : Nat} (hk : k < 9) : told (fun c _ => c) (made f) (((k : Nat) : Int) + 1) 0 = f k := by
  rw [told_madeN]
  by_cases h : 0 < f k
  · rw [if_pos ⟨hk, h⟩]
  · have := hf k
    rw [if_neg (by omega)]; omega
def mx (i j : Int) : Int := if j > i then j else i
theorem max_made {f g : Nat → Int} (hf : ∀ k, 0 ≤ f k) {k : Nat} (hk : k < 9) : told mx (made g) (((k : Nat) : Int) + 1) (f k) = mx (f k) (g k) := by
  rw [told_madeN]
  have := hf k
  by_cases h : 0 < g k
  · rw [if_pos ⟨hk, h⟩]
    unfold mx
    split <;> split <;> omega
  · rw [if_neg (by omega)]
    unfold mx
    rw [if_neg (by omega)]
def lessF (n : Nat) (f g : Nat → Int) : Bool := (List.range n).any fun k => decide (f k < g k)
theorem less_madeN {f g : Nat → Int} (hf : ∀ k, 0 ≤ f k) : ∀ n, n ≤ 9 → ((madeN n g).any fun c => decide (cnt (made f) c.1 < c.2)) = lessF n f g
  | 0, _ => rfl
  | n + 1, h => by
    have ih := less_madeN (g := g) hf n (by omega)
    have e : lessF (n + 1) f g = (lessF n f g || decide (f n < g n)) := by
      unfold lessF
      rw [List.range_succ, List.any_append]
      simp
    rw [madeN_succ, List.any_append, ih, e]
    have := hf n
    by_cases h0 : 0 < g n
    · rw [if_pos h0]
      show (_ || (decide (cnt (made f) (((n : Nat) : Int) + 1) < g n) || false)) = _
      rw [cnt_made hf (by omega), Bool.or_false]
    · rw [if_neg h0, decide_eq_false (by omega : ¬ f n < g n)]
      rfl
/-! a dict of counts -/
def kvl (m : Vc) : List (Key × V) := m.map fun c => (Sum.inl c.1, V.int c.2)
def dput (m : Vc) (k c : Int) : Vc := if (m.any fun x => decide (x.1 = k)) = true then m.map (fun x => if x.1 = k then (k, c) else x) else m ++ [(k, c)]
structure Good (m : Vc) : Prop where
  nd : (m.map (·.1)).Nodup
  rg : ∀ c ∈ m, 1 ≤ c.1 ∧ c.1 ≤ 9 ∧ 0 < c.2
theorem putK_kvl (m : Vc) (k c : Int) : putK (kvl m) (Sum.inl k) (V.int c) = kvl (dput m k c) := by
  have e1 : ((kvl m).any fun kv => decide (kv.1 = (Sum.inl k : Key))) = (m.any fun x => decide (x.1 = k)) := by
    unfold kvl
    rw [List.any_map]
    congr 1
    funext x
    exact decide_eq_decide.mpr ⟨fun h => Sum.inl.inj h, fun h => congrArg Sum.inl h⟩
  unfold putK dput
  rw [e1]
  split
  · unfold kvl
    rw [List.map_map, List.map_map]
    refine List.map_congr_left fun x _ => ?_
    show (if (Sum.inl x.1 : Key) = Sum.inl k then _ else _) = (fun c : Int × Int => ((Sum.inl c.1 : Key), V.int c.2)) (if x.1 = k then (k, c) else x)
    by_cases h : x.1 = k
    · rw [if_pos h, if_pos (congrArg Sum.inl h)]
      show ((Sum.inl x.1 : Key), V.int c) = (Sum.inl k, V.int c)
      rw [h]
    · rw [if_neg h, if_neg fun q => h (Sum.inl.inj q)]
  · unfold kvl
    rw [List.map_append]
    rfl
theorem valV_kvl (m : Vc) (d : Int) : ((valV (kvl m) (Sum.inl d : Key)).getD (.int 0) = .int (cnt m d)) ∧ (∀ c ∈ m, c.1 = d → valV (kvl m) (Sum.inl d : Key) = some (.int (cnt m d))) := by
  induction m with
  | nil => exact ⟨rfl, fun c hc => by cases hc⟩
  | cons x r ih =>
    have e : valV (kvl (x :: r)) (Sum.inl d : Key) = if x.1 = d then some (.int x.2) else valV (kvl r) (Sum.inl d : Key) := by
      unfold valV kvl
      rw [List.map_cons, List.find?_cons]
      by_cases h : x.1 = d
      · rw [if_pos h, decide_eq_true (congrArg Sum.inl h)]; rfl
      · rw [if_neg h, decide_eq_false fun q => h (Sum.inl.inj q)]
    rw [e]
    show (_ = V.int (if x.1 = d then x.2 else cnt r d)) ∧ _
    by_cases h : x.1 = d
    · rw [if_pos h, if_pos h]
      exact ⟨rfl, fun _ _ _ => by show _ = some (V.int (if x.1 = d then x.2 else cnt r d)); rw [if_pos h]⟩
    · rw [if_neg h, if_neg h]
      refine ⟨ih.1, fun c hc q => ?_⟩
      show _ = some (V.int (if x.1 = d then x.2 else cnt r d))
      rw [if_neg h]
      rcases List.mem_cons.mp hc with rfl | hc
      · exact absurd q h
      · exact ih.2 c hc q
theorem cnt_pos {m : Vc} (g : Good m) {d : Int} : (∃ c ∈ m, c.1 = d) ↔ 0 < cnt m d := by
  have := g.rg
  clear g
  induction m with
  | nil => exact ⟨fun ⟨c, hc, _⟩ => (by cases hc), fun h => absurd h (by show ¬ (0 : Int) < 0; omega)⟩
  | cons x r ih =>
    have ih : (∃ c ∈ r, c.1 = d) ↔ 0 < cnt r d := ih fun c hc => this c (List.mem_cons_of_mem _ hc)
    have hx := this x (List.mem_cons_self ..)
    show _ ↔ 0 < if x.1 = d then x.2 else cnt r d
    by_cases h : x.1 = d
    · rw [if_pos h]
      exact ⟨fun _ => hx.2.2, fun _ => ⟨x, List.mem_cons_self .., h⟩⟩
    · rw [if_neg h]
      refine Iff.trans ?_ ih
      constructor
      · rintro ⟨c, hc, q⟩
        rcases List.mem_cons.mp hc with rfl | hc
        · exact absurd q h
        · exact ⟨c, hc, q⟩
      · rintro ⟨c, hc, q⟩
        exact ⟨c, List.mem_cons_of_mem _ hc, q⟩
theorem cnt_dput (m : Vc) (k c d : Int) : cnt (dput m k c) d = if k = d then c else cnt m d := by
  unfold dput
  split
  · rename_i h
    have key : ∀ m : Vc, (m.any fun x => decide (x.1 = k)) = true → cnt (m.map fun x => if x.1 = k then (k, c) else x) d = if k = d then c else cnt m d := by
      intro m
      have none : ∀ m : Vc, ¬ k = d → cnt (m.map fun x => if x.1 = k then (k, c) else x) d = cnt m d := by
        intro m hk
        induction m with
        | nil => rfl
        | cons x r ih =>
          show cnt ((if x.1 = k then (k, c) else x) :: r.map _) d = if x.1 = d then x.2 else cnt r d
          by_cases hx : x.1 = k
          · rw [if_pos hx]
            show (if k = d then c else _) = _
            rw [if_neg hk, if_neg (by rw [hx]; exact hk), ih]
          · rw [if_neg hx]
            show (if x.1 = d then x.2 else _) = _
            rw [ih]
      induction m with
      | nil => intro h; cases h
      | cons x r ih =>
        intro h
        by_cases hk : k = d
        · rw [if_pos hk]
          show cnt ((if x.1 = k then (k, c) else x) :: r.map _) d = c
          by_cases hx : x.1 = k
          · rw [if_pos hx]
            show (if k = d then c else _) = _
            rw [if_pos hk]
          · rw [if_neg hx]
            show (if x.1 = d then x.2 else _) = _
            rw [if_neg (by rw [← hk]; exact hx)]
            have h2 : (r.any fun x => decide (x.1 = k)) = true := by
              rw [List.any_cons, decide_eq_false hx, Bool.false_or] at h
              exact h
            rw [ih h2, if_pos hk]
        · rw [if_neg hk]
          exact none _ hk
    exact key m h
  · rename_i h
    have out : ∀ x ∈ m, ¬ x.1 = k := fun x hx q => h (List.any_eq_true.mpr ⟨x, hx, decide_eq_true q⟩)
    by_cases hk : k = d
    · rw [if_pos hk, cnt_app_out (by rw [← hk]; exact out)]
      show (if k = d then c else _) = _
      rw [if_pos hk]
    · rw [if_neg hk, cnt_app_ne hk]
theorem good_dput {m : Vc} (g : Good m) {k c : Int} (h1 : 1 ≤ k) (h9 : k ≤ 9) (hc : 0 < c) : Good (dput m k c) := by
  unfold dput
  split
  · refine ⟨?_, fun x hx => ?_⟩
    · have e : (m.map fun x => if x.1 = k then (k, c) else x).map (·.1) = m.map (·.1) := by
        rw [List.map_map]
        refine List.map_congr_left fun x _ => ?_
        show (if x.1 = k then (k, c) else x).1 = x.1
        by_cases h : x.1 = k
        · rw [if_pos h, h]
        · rw [if_neg h]
      rw [e]; exact g.nd
    · obtain ⟨y, hy, rfl⟩ := List.mem_map.mp hx
      by_cases h : y.1 = k
      · rw [if_pos h]; exact ⟨h1, h9, hc⟩
      · rw [if_neg h]; exact g.rg y hy
  · rename_i h
    have out : ∀ x ∈ m, ¬ x.1 = k := fun x hx q => h (List.any_eq_true.mpr ⟨x, hx, decide_eq_true q⟩)
    refine ⟨?_, fun x hx => ?_⟩
    · rw [List.map_append, List.nodup_append]
      refine ⟨g.nd, by simp, fun a ha b hb => ?_⟩
      obtain ⟨x, hx, rfl⟩ := List.mem_map.mp ha
      have hb : b = k := by simpa using hb
      rw [hb]; exact out x hx
    · rcases List.mem_append.mp hx with hx | hx
      · exact g.rg x hx
      · rw [List.mem_singleton.mp hx]; exact ⟨h1, h9, hc⟩
theorem merge_kvl (v : Vc) : ∀ m : Vc, mergeK (kvl m) (kvl v) = kvl (v.foldl (fun m c => dput m c.1 c.2) m) := by
  induction v with
  | nil => intro m; rfl
  | cons x r ih =>
    intro m
    show mergeK (putK (kvl m) (Sum.inl x.1) (V.int x.2)) (kvl r) = _
    rw [putK_kvl, ih]
    rfl
theorem fold_good (v : Vc) (hv : ∀ c ∈ v, 1 ≤ c.1 ∧ c.1 ≤ 9 ∧ 0 < c.2) : ∀ m : Vc, Good m → Good (v.foldl (fun m c => dput m c.1 c.2) m) := by
  induction v with
  | nil => intro m g; exact g
  | cons x r ih =>
    intro m g
    have hx := hv x (List.mem_cons_self ..)
    exact ih (fun c hc => hv c (List.mem_cons_of_mem _ hc)) _ (good_dput g hx.1 hx.2.1 hx.2.2)
theorem fold_cnt (v : Vc) (d : Int) : ∀ m : Vc, cnt (v.foldl (fun m c => dput m c.1 c.2) m) d = told (fun c _ => c) v d (cnt m d) := by
  induction v with
  | nil => intro m; rfl
  | cons x r ih =>
    intro m
    show cnt (r.foldl (fun m c => dput m c.1 c.2) (dput m x.1 x.2)) d = told (fun c _ => c) r d (if x.1 = d then x.2 else cnt m d)
    rw [ih, cnt_dput]
theorem made_rg {f : Nat → Int} : ∀ c ∈ made f, 1 ≤ c.1 ∧ c.1 ≤ 9 ∧ 0 < c.2 := fun c hc => by
  obtain ⟨k, hk, rfl, h0⟩ := madeN_mem hc
  exact ⟨by show (1 : Int) ≤ ((k : Nat) : Int) + 1; omega, by show ((k : Nat) : Int) + 1 ≤ 9; omega, h0⟩
/-- a rising row of numbers from 1 to n is told by what is in it -/
theorem rising (n : Nat) : ∀ ys : List Int, ys.Pairwise (· < ·) → (∀ y ∈ ys, 1 ≤ y ∧ y ≤ n) → ys = ((List.range n).filter fun k => decide ((((k : Nat) : Int) + 1) ∈ ys)).map fun k => ((k : Nat) : Int) + 1 := by
  induction n with
  | zero =>
    intro ys _ h
    cases ys with
    | nil => rfl
    | cons y r => have := h y (List.mem_cons_self ..); omega
  | succ n ih =>
    intro ys hp h
    by_cases hm : (((n : Nat) : Int) + 1) ∈ ys
    · obtain ⟨u, w, e⟩ := List.append_of_mem hm
      have hw : w = [] := by
        cases w with
        | nil => rfl
        | cons z w =>
          rw [e, List.pairwise_append] at hp
          have h1 := (List.pairwise_cons.mp hp.2.1).1 z (List.mem_cons_self ..)
          have h2 := h z (by rw [e]; simp)
          omega
      subst hw
      have hu : u.Pairwise (· < ·) := by rw [e, List.pairwise_append] at hp; exact hp.1
      have hlt : ∀ y ∈ u, y < ((n : Nat) : Int) + 1 := fun y hy => by
        rw [e, List.pairwise_append] at hp
        exact hp.2.2 y hy _ (by simp)
      have iu := ih u hu fun y hy => ⟨(h y (by rw [e]; simp [hy])).1, by have := hlt y hy; omega⟩
      have ef : ((List.range (n + 1)).filter fun k => decide ((((k : Nat) : Int) + 1) ∈ ys)) = ((List.range n).filter fun k => decide ((((k : Nat) : Int) + 1) ∈ u)) ++ [n] := by
        have e1 : ((List.range n).filter fun k => decide ((((k : Nat) : Int) + 1) ∈ ys)) = ((List.range n).filter fun k => decide ((((k : Nat) : Int) + 1) ∈ u)) := by
          refine List.filter_congr fun k hk => ?_
          have hk := List.mem_range.mp hk
          refine decide_eq_decide.mpr ?_
          rw [e, List.mem_append, List.mem_singleton]
          exact ⟨fun q => q.resolve_right (by omega), .inl⟩
        rw [List.range_succ, List.filter_append, List.filter_cons_of_pos (by rw [decide_eq_true hm]), List.filter_nil, e1]
      rw [ef, List.map_append, ← iu, e]
      rfl
    · have iu := ih ys hp fun y hy => ⟨(h y hy).1, by
        have h1 := (h y hy).2
        have h2 : ¬ y = ((n : Nat) : Int) + 1 := fun q => hm (q ▸ hy)
        omega⟩
      rw [List.range_succ, List.filter_append, List.filter_cons_of_neg (by rw [decide_eq_false hm]; exact Bool.false_ne_true), List.filter_nil, List.append_nil]
      exact iu
/-- sorted keys with their counts -/
theorem vector_made {m : Vc} (g : Good m) {ys : List Int} (hp : ys.Perm (m.map (·.1))) (hs : ys.Pairwise (· ≤ ·)) : ys.map (fun y => (y, cnt m y)) = made fun k => cnt m (((k : Nat) : Int) + 1) := by
  have nd : ys.Nodup := hp.nodup_iff.mpr g.nd
  have lt : ys.Pairwise (· < ·) := by
    have := List.Pairwise.and hs nd
    exact this.imp fun h => by omega
  have mem : ∀ y, y ∈ ys ↔ ∃ c ∈ m, c.1 = y := fun y => by rw [hp.mem_iff, List.mem_map]
  have rg : ∀ y ∈ ys, 1 ≤ y ∧ y ≤ ((9 : Nat) : Int) := fun y hy => by
    obtain ⟨c, hc, rfl⟩ := (mem y).mp hy
    have := g.rg c hc
    omega
  have e := rising 9 ys lt rg
  have ef : ((List.range 9).filter fun k => decide ((((k : Nat) : Int) + 1) ∈ ys)) = ((List.range 9).filter fun k => decide (0 < cnt m (((k : Nat) : Int) + 1))) :=
    List.filter_congr fun k _ => decide_eq_decide.mpr ((mem _).trans (cnt_pos g))
  rw [ef] at e
  rw [e, List.map_map]
  rfl
theorem paired_imp {α β : Type} {R S : α → β → Prop} (h : ∀ a b, R a b → S a b) : ∀ {xs : List α} {ys : List β}, Paired R xs ys → Paired S xs ys
  | _, _, .nil => .nil
  | _, _, .cons a b => .cons (h _ _ a) (paired_imp h b)
theorem paired_get {α β : Type} {R : α → β → Prop} : ∀ {xs : List α} {ys : List β}, Paired R xs ys → ∀ (i : Nat) (x : α), xs[i]? = some x → ∃ y, ys[i]? = some y ∧ R x y
  | _, _, .nil, i, x, h => by simp at h
  | _, _, .cons a b, 0, x, h => by cases (Option.some.inj h); exact ⟨_, rfl, a⟩
  | _, _, .cons a b, i + 1, x, h => by
    obtain ⟨y, h1, h2⟩ := paired_get b i x (by simpa using h)
    exact ⟨y, by simpa using h1, h2⟩
theorem paired_len {α β : Type} {R : α → β → Prop} : ∀ {xs : List α} {ys : List β}, Paired R xs ys → xs.length = ys.length
  | _, _, .nil => rfl
  | _, _, .cons a b => by rw [List.length_cons, List.length_cons, paired_len b]
theorem paired_snoc {α β : Type} {R : α → β → Prop} : ∀ {xs : List α} {ys : List β} {x : α} {y : β}, Paired R xs ys → R x y → Paired R (xs ++ [x]) (ys ++ [y])
  | _, _, _, _, .nil, h => .cons h .nil
  | _, _, _, _, .cons a b, h => .cons a (paired_snoc b h)
abbrev Prs (K : PySem.W.Frag) (H : Hp) (ps : List Addr) (v : Vc) : Prop := Paired (fun p (c : Int × Int) => SqT K H p [.int c.1, .int c.2]) ps v
def Vec (K : PySem.W.Frag) (H : Hp) (a : Addr) (v : Vc) : Prop := ∃ ps : List Addr, SqT K H a (ps.map V.ref) ∧ Prs K H ps v
def PVec (K : PySem.W.Frag) (H : Hp) (a : Addr) (v : Vc) : Prop := ∃ ps : List Addr, PlT H a (ps.map V.ref) ∧ Prs K H ps v
theorem prs_same {K : PySem.W.Frag} {H H' : Hp} {ps : List Addr} {v : Vc} (e : Same H H') (h : Prs K H ps v) : Prs K H' ps v := paired_imp (fun _ _ q => same_tup e q) h
theorem Vec.same {K : PySem.W.Frag} {H H' : Hp} {a : Addr} {v : Vc} (h : Vec K H a v) (e : Same H H') : Vec K H' a v := by
  obtain ⟨ps, h1, h2⟩ := h
  exact ⟨ps, same_tup e h1, prs_same e h2⟩
theorem PVec.same {K : PySem.W.Frag} {H H' : Hp} {a : Addr} {v : Vc} (h : PVec K H a v) (e : Same H H') : PVec K H' a v := by
  obtain ⟨ps, h1, h2⟩ := h
  exact ⟨ps, h1.same e, prs_same e h2⟩
theorem PVec.vec {K : PySem.W.Frag} {H : Hp} {a : Addr} {v : Vc} (h : PVec K H a v) : Vec K H a v := by
  obtain ⟨ps, h1, h2⟩ := h
  exact ⟨ps, h1.seq, h2⟩
theorem for_vec {K : PySem.W.Frag} {g : TG} {t : TS} {D : Ends} {σ : L2.St} {H H0 : Hp} {a : Addr} {v : Vc} {ps : List Addr} (hS : SqT K H0 a (ps.map V.ref)) (hP : Prs K H0 ps v) (Pv : Vc → L2.St → Hp → Prop) (h0 : Pv [] σ H) (hl : ∀ pre σ H, Pv pre σ H → Same H0 H)
    (hs : ∀ (pre : Vc) (c : Int × Int) (post : Vc) (T : Addr) σ H, v = pre ++ c :: post → Pv pre σ H → SqT K H T [.int c.1, .int c.2] → g (.ref T) σ H fun σ2 H2 => t { D with nx := Pv (pre ++ [c]), ct := Pv (pre ++ [c]), bk := D.nx } σ2 H2)
    (hd : ∀ σ H, Pv v σ H → D.nx σ H) : ForB (Itt K a) g t D σ H := by
  refine for_tup (xs := ps.map V.ref) (fun i => Pv (v.take i)) (by simpa using h0) (fun i σ H _ p => same_tup (hl _ σ H p) hS) (fun i x σ H hx p => ?_) (fun σ H p => ?_)
  · rw [List.getElem?_map] at hx
    obtain ⟨T, hT, rfl⟩ := Option.map_eq_some_iff.mp hx
    obtain ⟨c, hc, q⟩ := paired_get hP i T hT
    have e2 := (List.getElem?_eq_some_iff.mp hc).2
    have e1 : v = v.take i ++ c :: v.drop (i + 1) := by rw [← e2, List.getElem_cons_drop, List.take_append_drop]
    rw [List.take_add_one, hc]
    exact hs _ c _ T σ H e1 p (same_tup (hl _ σ H p) q)
  · rw [List.length_map, paired_len hP, List.take_length] at p
    exact hd σ H p
def lessV (v w : Vc) : Bool := w.any fun c => decide (cnt v c.1 < c.2)
def cmpS (a b : Bool) : Str := if a = true then (if b = true then "apart" else "less") else if b = true then "greater" else "equal"
theorem dput_len (m : Vc) (k c : Int) : (dput m k c).length ≤ m.length + 1 := by
  unfold dput
  split <;> simp
theorem fold_len (v : Vc) : ∀ m : Vc, (v.foldl (fun m c => dput m c.1 c.2) m).length ≤ m.length + v.length := by
  induction v with
  | nil => intro m; exact Nat.le_refl _
  | cons x r ih =>
    intro m
    have h1 := ih (dput m x.1 x.2)
    have h2 := dput_len m x.1 x.2
    show (r.foldl (fun m c => dput m c.1 c.2) (dput m x.1 x.2)).length ≤ _
    rw [List.length_cons]
    omega
theorem made_len (f : Nat → Int) : (made f).length ≤ 9 := by
  unfold made madeN
  rw [List.length_map]
  exact Nat.le_trans (List.length_filter_le ..) (by rw [List.length_range]; exact Nat.le_refl _)
theorem made_congr {f g : Nat → Int} (h : ∀ k, k < 9 → f k = g k) : made f = made g := by
  unfold made madeN
  have e : ((List.range 9).filter fun k => decide (0 < f k)) = ((List.range 9).filter fun k => decide (0 < g k)) :=
    List.filter_congr fun k hk => by rw [h k (List.mem_range.mp hk)]
  rw [e]
  refine List.map_congr_left fun k hk => ?_
  rw [h k (List.mem_range.mp (List.mem_filter.mp hk).1)]
def row9 (f : Nat → Int) : List Int := (List.range 9).map f
def sp_count_of (K : PySem.W.Frag) : Sp := sp2 fun x y H Q => ∃ (a : Addr) (v : Vc) (d : Int), x = .ref a ∧ y = .int d ∧ Vec K H a v ∧ Q (.int (cnt v d)) H
def sp_is_less_somewhere (K : PySem.W.Frag) : Sp := sp2 fun x y H Q => ∃ (a b : Addr) (v w : Vc), x = .ref a ∧ y = .ref b ∧ Vec K H a v ∧ Vec K H b w ∧ Q (.bl (lessV v w)) H
def sp_compare (K : PySem.W.Frag) : Sp := sp2 fun x y H Q => ∃ (a b : Addr) (v w : Vc), x = .ref a ∧ y = .ref b ∧ Vec K H a v ∧ Vec K H b w ∧ Q (.str (cmpS (lessV v w) (lessV w v))) H
def sp_vector (K : PySem.W.Frag) : Sp := sp1 fun x H Q => ∃ (D : Addr) (m : Vc), x = .ref D ∧ H D = some (.dK (kvl m)) ∧ Good m ∧ m.length ≤ 40 ∧ ∀ (r : Addr) (H' : Hp), Same H H' → PVec K H' r (made fun k => cnt m (((k : Nat) : Int) + 1)) → Q (.ref r) H'
def sp_join (K : PySem.W.Frag) : Sp := sp2 fun x y H Q => ∃ (a b : Addr) (f g : Nat → Int), x = .ref a ∧ y = .ref b ∧ (∀ k, 0 ≤ f k) ∧ (∀ k, 0 ≤ g k) ∧ PVec K H a (made f) ∧ Vec K H b (made g) ∧ ∀ (r : Addr) (H' : Hp), Same H H' → PVec K H' r (made fun k => mx (f k) (g k)) → Q (.ref r) H'
def sp_raised (K : PySem.W.Frag) : Sp := sp3 fun x y z H Q => ∃ (a : Addr) (f : Nat → Int) (j : Nat) (n : Int), x = .ref a ∧ y = .int (((j : Nat) : Int) + 1) ∧ z = .int n ∧ j < 9 ∧ 0 < n ∧ (∀ k, 0 ≤ f k) ∧ PVec K H a (made f) ∧ ∀ (r : Addr) (H' : Hp), Same H H' → PVec K H' r (made fun k => if k = j then n else f k) → Q (.ref r) H'
def sp_counts_of (K : PySem.W.Frag) : Sp := sp1 fun x H Q => ∃ (a : Addr) (f : Nat → Int), x = .ref a ∧ (∀ k, 0 ≤ f k) ∧ Vec K H a (made f) ∧ ∀ (r : Addr) (H' : Hp), Same H H' → SqT K H' r ((row9 f).map V.int) → Q (.ref r) H'
def sp_law_cell (K : PySem.W.Frag) : Sp := sp2 fun x y H Q => ∃ (a : Addr) (ns : List Int) (i : Nat), x = .ref a ∧ y = .int i ∧ SqL K H a (ns.map V.int) ∧ ns.length ≤ 1000 ∧ i ≤ 1000 ∧ ∀ n, Q (.int n) H
def sp_law_vector (K : PySem.W.Frag) : Sp := sp2 fun x y H Q => ∃ n : Int, x = .int n ∧ y = .int 4 ∧ ∀ (r : Addr) (f : Nat → Int) (H' : Hp), Same H H' → (∀ k, 0 ≤ f k) → PVec K H' r (made f) → Q (.ref r) H'
def sp_law_counts (K : PySem.W.Frag) : Sp := sp1 fun x H Q => ∃ (a : Addr) (f : Nat → Int), x = .ref a ∧ (∀ k, 0 ≤ f k) ∧ Vec K H a (made f) ∧ ∀ (r : Addr) (H' : Hp), H r = none → Same H H' → H' r = some (.lst ((row9 f).map V.int)) → Q (.ref r) H'
def sp_law_due (K : PySem.W.Frag) : Sp := sp2 fun x y H Q => ∃ (a b : Addr) (f g : Nat → Int), x = .ref a ∧ y = .ref b ∧ SqL K H a ((row9 f).map V.int) ∧ SqL K H b ((row9 g).map V.int) ∧ ∀ H', Same H H' → Q (.str (cmpS (lessF 9 f g) (lessF 9 g f))) H'
def sp_law_made (K : PySem.W.Frag) : Sp := sp1 fun x H Q => ∃ (a : Addr) (f : Nat → Int), x = .ref a ∧ SqL K H a ((row9 f).map V.int) ∧ ∀ (r : Addr) (H' : Hp), Same H H' → Vec K H' r (made f) → Q (.ref r) H'
def sp_law (K : PySem.W.Frag) : Sp := sp1 fun a H Q => ∃ (sa : Addr) (ns : List Int), a = .ref sa ∧ SqL K H sa (ns.map V.int) ∧ ns.length ≤ 63 ∧ ∀ H', Q (.bl true) H'
theorem e_tDGet {td ty : TE} {σ : L2.St} {H : Hp} {Q : VK} (q : td σ H fun x H1 => ty σ H1 fun y H2 => ∃ a v, x = .ref a ∧ DGet H2 a y (some v) ∧ Q v H2) : tDGet td ty σ H Q := q
theorem e_tDGet2 {td ty tx : TE} {σ : L2.St} {H : Hp} {Q : VK} (q : td σ H fun x H1 => ∃ a, x = .ref a ∧ IsD H1 a ∧ ty σ H1 fun y H2 => tx σ H2 fun z H3 => ∃ o, DGet H3 a y o ∧ Q (o.getD z) H3) : tDGet2 td ty tx σ H Q := q
theorem e_sDPut {td ty tv : TE} {σ : L2.St} {H : Hp} {D : Ends} (q : tv σ H fun v H1 => td σ H1 fun x H2 => ty σ H2 fun y H3 => ∃ a H4, x = .ref a ∧ DPut H3 a y v H4 ∧ D.nx σ H4) : sDPut td ty tv D σ H := q
theorem dg_some {H : Hp} {D : Addr} {m : Vc} {d : Int} {Q : V → Prop} (h : H D = some (.dK (kvl m))) (hc : ∃ c ∈ m, c.1 = d) (q : Q (.int (cnt m d))) : ∃ a v, V.ref D = .ref a ∧ DGet H a (.int d) (some v) ∧ Q v := by
  obtain ⟨c, h1, h2⟩ := hc
  refine ⟨D, _, rfl, ?_, q⟩
  rw [← (valV_kvl m d).2 c h1 h2]
  exact DGet.k (k := Sum.inl d) h
theorem dg_or {H : Hp} {D : Addr} {m : Vc} {d : Int} {Q : Option V → Prop} (h : H D = some (.dK (kvl m))) (q : ∀ o : Option V, o.getD (.int 0) = .int (cnt m d) → Q o) : ∃ o, DGet H D (.int d) o ∧ Q o :=
  ⟨_, DGet.k (k := Sum.inl d) h, q _ (valV_kvl m d).1⟩
theorem dp_put {H : Hp} {D : Addr} {m : Vc} {k c : Int} {Q : Hp → Prop} (h : H D = some (.dK (kvl m))) (hl : m.length ≤ 100) (q : Q (upd H D (.dK (kvl (dput m k c))))) : ∃ a H4, V.ref D = .ref a ∧ DPut H a (.int k) (.int c) H4 ∧ Q H4 :=
  ⟨D, _, rfl, .inl ⟨kvl m, Sum.inl k, h, rfl, Nat.lt_of_le_of_lt (by unfold kvl; rw [List.length_map]; exact hl) (by decide), rfl⟩, by rw [putK_kvl]; exact q⟩
theorem prs_kvl {K : PySem.W.Frag} {H : Hp} : ∀ {ps : List Addr} {v : Vc}, Prs K H ps v → Paired (fun p (kv : Key × V) => SqT K H p [kV kv.1, kv.2]) ps (kvl v)
  | _, _, .nil => .nil
  | _, _, .cons a b => .cons a (prs_kvl b)
theorem dict_made {f : Nat → Int} (hf : ∀ k, 0 ≤ f k) : ∃ m, mergeK [] (kvl (made f)) = kvl m ∧ Good m ∧ m.length ≤ 9 ∧ ∀ k : Nat, k < 9 → cnt m (((k : Nat) : Int) + 1) = f k :=
  ⟨_, merge_kvl (made f) [], fold_good (made f) made_rg [] ⟨by simp, fun c hc => by cases hc⟩, Nat.le_trans (fold_len (made f) []) (by rw [List.length_nil, Nat.zero_add]; exact made_len f), fun k hk => by rw [fold_cnt]; exact last_made hf hk⟩
abbrev Prx (H : Hp) (ps : List Addr) (v : Vc) : Prop := Paired (fun p (c : Int × Int) => H p = some (.tup [.int c.1, .int c.2])) ps v
theorem Prx.upd {H : Hp} {ps : List Addr} {v : Vc} {E : Addr} {l : List V} {o : HO} (h : Prx H ps v) (e : H E = some (.lst l)) : Prx (upd H E o) ps v :=
  paired_imp (fun p c q => by
    have n : p ≠ E := fun z => by
      rw [z, e] at q
      cases q
    rw [upd_ne n]; exact q) h
theorem Prx.same {H H' : Hp} {ps : List Addr} {v : Vc} (h : Prx H ps v) (e : Same H H') : Prx H' ps v := paired_imp (fun _ _ q => e _ _ q) h
theorem Prx.prs {K : PySem.W.Frag} {H : Hp} {ps : List Addr} {v : Vc} (h : Prx H ps v) : Prs K H ps v := paired_imp (fun _ _ q => SqT.of q) h
theorem row9_at (f : Nat → Int) {i : Nat} (h : i < 9) {j : Int} (hj : j = i) : atI ((row9 f).map V.int) j = some (.int (f i)) :=
  at_of (j := i) hj (by rw [List.getElem?_map, row9, List.getElem?_map, List.getElem?_range h]; rfl)
theorem row9_set (f : Nat → Int) {i : Nat} (h : i < 9) (n : Int) : (row9 f).set i n = row9 fun k => if k = i then n else f k := by
  refine List.ext_getElem? fun k => ?_
  rw [List.getElem?_set]
  unfold row9
  by_cases hk : k < 9
  · have r1 : ((List.range 9).map fun k => if k = i then n else f k)[k]? = some (if k = i then n else f k) := by rw [List.getElem?_map, List.getElem?_range hk]; rfl
    have r2 : ((List.range 9).map f)[k]? = some (f k) := by rw [List.getElem?_map, List.getElem?_range hk]; rfl
    rw [r1, r2]
    by_cases e : i = k
    · rw [if_pos e, if_pos (by simp; omega), if_pos e.symm]
    · rw [if_neg e, if_neg fun q => e q.symm]
  · rw [List.getElem?_eq_none (l := (List.range 9).map fun k => if k = i then n else f k) (by simp; omega)]
    by_cases e : i = k
    · omega
    · rw [if_neg e, List.getElem?_eq_none (by simp; omega)]
theorem row9_inj {f g : Nat → Int} (h : ∀ k, k < 9 → f k = g k) : row9 f = row9 g := List.map_congr_left fun k hk => h k (List.mem_range.mp hk)
theorem row9_len (f : Nat → Int) : ((row9 f).map V.int).length = 9 := by unfold row9; simp
theorem p2 (n : Int) {i : Nat} (h : i < 9) : CDivW n (1 * 2 ^ (1 + (i : Int)).toNat) := by
  have e : (1 + (i : Int)).toNat = i + 1 := by omega
  rw [e]
  have : i = 0 ∨ i = 1 ∨ i = 2 ∨ i = 3 ∨ i = 4 ∨ i = 5 ∨ i = 6 ∨ i = 7 ∨ i = 8 := by omega
  rcases this with h | h | h | h | h | h | h | h | h <;> rw [h] <;> exact ⟨by decide, by decide⟩
theorem lc_filt {K : PySem.W.Frag} {g : TG} {tt : TT} {te : TE} {vs : List Nat} {σ : L2.St} {Da : Addr} {H0 : Hp} {Q : VK} {lo : Int} {n : Nat} (hD : H0 Da = none) (hn : n ≤ 1000000) (p : Nat → Bool) (f : Nat → V)
    (hs : ∀ (i : Nat) (H2 : Hp) (C : VK) (E : Hp → Prop), i < n → Same H0 H2 → (p i = true → ∀ H3, Same H2 H3 → C (f i) H3) → (p i = false → ∀ H3, Same H2 H3 → E H3) →
      g (.int (lo + (i : Nat))) (wipe σ vs) H2 fun σ2 H2 => wipe σ2 vs = wipe σ vs ∧ tt σ2 H2 fun b H3 => if b = true then te σ2 H3 C else E H3)
    (hd : ∀ (H : Hp), Same H0 H → H Da = some (.lst (((List.range n).filter p).map f)) → Q (.ref Da) H) : LcB (Itr lo n) g tt te vs σ Da H0 Q := by
  refine lc_rng (fun i H2 => Same H0 H2 ∧ H2 Da = some (.lst (((List.range i).filter p).map f))) ⟨same_new hD, upd_same⟩ (fun i H2 hi q => ?_) (fun H2 q => hd H2 q.1 q.2)
  obtain ⟨s4, e4⟩ := q
  refine hs i H2 _ _ hi s4 (fun hp H3 s5 => ?_) (fun hp H3 s5 => ?_)
  · refine ⟨_, s5 _ _ e4, Nat.lt_of_le_of_lt (Nat.le_trans (by rw [List.length_map]; exact List.length_filter_le ..) (by rw [List.length_range]; omega : _ ≤ 1000000)) (by decide), Same.mut (s4.trans s5) hD, ?_⟩
    rw [upd_same, List.range_succ, List.filter_append, List.filter_cons_of_pos hp, List.map_append]
    rfl
  · refine ⟨s4.trans s5, ?_⟩
    rw [s5 _ _ e4, List.range_succ, List.filter_append, List.filter_cons_of_neg (by rw [hp]; exact Bool.false_ne_true), List.filter_nil, List.append_nil]
theorem nil_less (f g : Nat → Int) (h : Nat → Int) : decide ((((List.range 9).filter fun k => decide (f k < g k)).map h) = []) = !lessF 9 f g := by
  unfold lessF
  cases e : (List.range 9).any fun k => decide (f k < g k) with
  | true =>
    obtain ⟨k, hk, q⟩ := List.any_eq_true.mp e
    refine decide_eq_false fun z => ?_
    have : (List.range 9).filter (fun k => decide (f k < g k)) = [] := List.map_eq_nil_iff.mp z
    have m : k ∈ (List.range 9).filter (fun k => decide (f k < g k)) := List.mem_filter.mpr ⟨hk, q⟩
    rw [this] at m
    cases m
  | false =>
    refine decide_eq_true ?_
    rw [List.filter_eq_nil_iff.mpr fun k hk => by
      have := List.any_eq_false.mp e k hk
      exact this]
    rfl
/-! vectors as data -/
abbrev Dv (v : Vc) : List PyData := v.map fun c => .tuple [.int c.1, .int c.2]
theorem dv_all {K : PySem.W.Frag} {H : Hp} : ∀ {ps : List Addr} {v : Vc}, Prs K H ps v → DpAll K H (ps.map V.ref) (Dv v)
  | _, _, .nil => .nil
  | _, _, .cons (b := c) a b => .cons (.tup (xs := [.int c.1, .int c.2]) a (.cons (.int _) (.cons (.int _) .nil))) (dv_all b)
theorem dv_eqv : ∀ v w : Vc, PyData.eqvAll (Dv v) (Dv w) = decide (v = w)
  | [], [] => by
    simp [PyData.eqvAll]
  | [], _ :: _ => by
    simp [PyData.eqvAll]
  | _ :: _, [] => by
    simp [PyData.eqvAll]
  | c :: v, d :: w => by
    have ih := dv_eqv v w
    show (PyData.eqvAll (Di [c.1, c.2]) (Di [d.1, d.2]) && PyData.eqvAll (Dv v) (Dv w)) = _
    rw [ih, eqvAll_ints]
    obtain ⟨c1, c2⟩ := c
    obtain ⟨d1, d2⟩ := d
    by_cases h1 : c1 = d1 <;> by_cases h2 : c2 = d2 <;> by_cases h3 : v = w <;> simp [h1, h2, h3]
theorem dv_can : ∀ v : Vc, PyData.canLayAll0 (Dv v) = true
  | [] => rfl
  | c :: v => by
    show (PyData.canLayAll0 (Di [c.1, c.2]) && PyData.canLayAll0 (Dv v)) = true
    rw [dv_can v, canAll_ints]; rfl
theorem dv_depth : ∀ v : Vc, PyData.depthAll (Dv v) ≤ 1
  | [] => by
    show 0 ≤ 1
    omega
  | c :: v => by
    have ih := dv_depth v
    show max (PyData.depthAll (Di [c.1, c.2]) + 1) (PyData.depthAll (Dv v)) ≤ 1
    rw [Vf.depthAll_ints]
    omega
theorem e_neVV {K : PySem.W.Frag} {H : Hp} {Q : VK} {a b : Addr} {v w : Vc} (h1 : Vec K H a v) (h2 : Vec K H b w) (q : Q (.bl (!decide (v = w))) H) : rNeD K (.ref a) (.ref b) H Q := by
  obtain ⟨ps, s1, p1⟩ := h1
  obtain ⟨qs, s2, p2⟩ := h2
  refine ⟨_, _, .tup s1 (dv_all p1), .tup s2 (dv_all p2), shaped_tuple (dv_can v) (Nat.le_trans (dv_depth v) (by decide)), shaped_tuple (dv_can w) (Nat.le_trans (dv_depth w) (by decide)), ?_⟩
  rw [show PyData.eqv (.tuple (Dv v)) (.tuple (Dv w)) = PyData.eqvAll (Dv v) (Dv w) from rfl, dv_eqv]
  exact q
local macro_rules | `(tactic| walk_at "dr") => `(tactic| first
  | assumption
  | exact Dr.same (by assumption) (same_new (by assumption))
  | exact Dr.same (Dr.same (by assumption) (same_new (by assumption))) (same_new (by assumption)))
local macro_rules | `(tactic| walk_at "ar") => `(tactic| first | omega | (simp only [List.length_cons, List.length_nil, List.length_map, List.length_append]; omega) | (simp only [List.length_cons, List.length_nil, List.length_map, List.length_append] at *; omega) | decide | assumption)
local macro_rules | `(tactic| walk_at "sl") => `(tactic| first
  | exact Dr.seq (by assumption)
  | assumption
  | exact SqL.of (by assumption)
  | exact SqL.of upd_same)
local macro_rules | `(tactic| walk_at "slt") => `(tactic| first
  | assumption
  | exact SqT.of (by assumption)
  | exact SqT.of upd_same)
local macro_rules | `(tactic| walk_at "size") => `(tactic| first
  | assumption
  | (refine sz_of ?_; first | decide | omega | (simp only [List.length_cons, List.length_nil, List.length_map, List.length_append] at *; omega)))
local macro_rules | `(tactic| walk_at "seq") => `(tactic| first
  | assumption
  | exact .inl (Dr.seq (by assumption))
  | exact .inl (by assumption)
  | exact .inl (SqL.of (by assumption))
  | exact .inr (by assumption)
  | exact .inr (SqT.of (by assumption)))
local macro_rules | `(tactic| walk_at "cond") => `(tactic| first
  | ((with_reducible show CMul _ _); first | exact .inr ⟨by decide, by decide⟩ | exact .inl ⟨by decide, by decide⟩ | exact .inr ⟨by omega, by omega⟩ | exact .inl ⟨by omega, by omega⟩)
  | ((with_reducible show CDivW _ _); first | exact ⟨by decide, by decide⟩ | exact wide_div (b := 60) (by omega) (by omega) (by decide) (by decide))
  | ((with_reducible show CDiv _ _); first | exact ⟨by decide, by decide⟩ | exact ⟨by omega, by omega⟩)
  | ((with_reducible show CPow _ _); exact ⟨by decide, by decide, by decide⟩)
  | (show (0 : Int) < _; first | decide | omega)
  | (show (0 : Int) ≤ _; first | decide | omega))
local macro_rules | `(tactic| walk_at "st1") => `(tactic| first
  | ((with_reducible show tVar _ _ _ _); refine e_var rfl ?_)
  | ((with_reducible show tC _ _ _ _); refine e_c ?_)
  | ((with_reducible show tOp _ _ _ _ _ _); refine e_op ?_)
  | ((with_reducible show rI0 _ _ _ _ _); refine e_I0 ?_)
  | ((with_reducible show rI _ _ _ _ _ _); refine e_I (by walk_at "cond") ?_)
  | ((with_reducible show rEq (V.int _) (V.int _) _ _); refine e_eqI ?_)
  | ((with_reducible show rNe (V.int _) (V.int _) _ _); refine e_neI ?_)
  | ((with_reducible show rEq (V.str _) (V.str _) _ _); refine e_eqS ?_)
  | ((with_reducible show rNe (V.str _) (V.str _) _ _); refine e_neS ?_)
  | ((with_reducible show rEq (V.bl _) (V.bl _) _ _); refine e_eqB ?_)
  | ((with_reducible show rNe (V.bl _) (V.bl _) _ _); refine e_neB ?_)
  | ((with_reducible show rEq _ _ _ _); refine e_eq rfl ?_)
  | ((with_reducible show rNe _ _ _ _); refine e_ne rfl ?_)
  | ((with_reducible show tTest _ _ _ _); refine e_test ?_)
  | ((with_reducible show tB _ _ _ _); refine e_B ?_)
  | ((with_reducible show ∃ k, V.bl _ = V.bl k ∧ _); refine e_ex ?_)
  | ((with_reducible show ∃ k, V.int _ = V.int k ∧ _); refine e_exI ?_)
  | ((with_reducible show tAnd _ _ _ _ _); refine e_and ?_)
  | ((with_reducible show tOr _ _ _ _ _); refine e_or ?_)
  | ((with_reducible show tNot _ _ _ _); refine e_not ?_)
  | ((with_reducible show tYes _ _ _); refine e_yes ?_))
local macro_rules | `(tactic| walk_at "st2") => `(tactic| first
  | ((with_reducible show tAndV _ _ _ _ _); refine e_andV ?_)
  | ((with_reducible show tOrV _ _ _ _ _); refine e_orV ?_)
  | ((with_reducible show tNotV _ _ _ _); refine e_notV ?_)
  | ((with_reducible show tIf _ _ _ _ _ _); refine e_if ?_)
  | ((with_reducible show tChain _ _ _ _ _ _ _ _); refine e_chain ?_)
  | ((with_reducible show tSeq _ _ _ _ _); refine e_seq ?_)
  | ((with_reducible show tNext _ _ _); refine e_next ?_)
  | ((with_reducible show tBreak _ _ _); refine e_break ?_)
  | ((with_reducible show tCont _ _ _); refine e_cont ?_)
  | ((with_reducible show tDrop _ _ _ _); refine e_drop ?_)
  | ((with_reducible show tRet _ _ _ _); refine e_ret ?_)
  | ((with_reducible show tRetN _ _ _); refine e_retN ?_)
  | ((with_reducible show tIfS _ _ _ _ _ _); refine e_ifS ?_)
  | ((with_reducible show tAsg _ _ _ _ _); refine e_asg ?_)
  | ((with_reducible show gName _ _ _ _ _); refine e_name ?_)
  | ((with_reducible show gSub _ _ _ _ _ _ _); refine e_sub ?_)
  | ((with_reducible show tNil _ _ _); refine e_nil ?_)
  | ((with_reducible show tCons _ _ _ _ _); refine e_cons ?_)
  | ((with_reducible show tCall _ _ _ _ _ _ _); refine e_call ?_)
  | ((with_reducible show tCB _ _ _ _ _); refine e_CB ?_)
  | ((with_reducible show tTup _ _ _ _); refine e_tup ?_)
  | ((with_reducible show tLst _ _ _ _); refine e_lst ?_)
  | ((with_reducible show tSl _ _ _ _ _ _ _); refine e_sl ?_)
  | ((with_reducible show tNoPart _ _ _); refine e_noP ?_)
  | ((with_reducible show tPart _ _ _ _); refine e_part ?_)
  | ((with_reducible show tBM _ _ _ _ _ _ _ _); refine e_bm ?_)
  | ((with_reducible show tFor _ _ _ _ _ _); refine e_for ?_)
  | ((with_reducible show iList _ _ _ _ _); refine e_iList ?_)
  | ((with_reducible show iTup _ _ _ _ _); refine e_iTup ?_)
  | ((with_reducible show iStr _ _ _ _); refine e_iStr ?_)
  | ((with_reducible show iRng1 _ _ _ _); refine e_iRng1 ?_)
  | ((with_reducible show iRng2 _ _ _ _); refine e_iRng2 ?_)
  | ((with_reducible show (∃ i', [V.int _] = [V.int i'] ∧ _) ∨ ∃ k, [V.int _] = [V.bl k] ∧ _); refine Or.inl ⟨_, rfl, ?_⟩)
  | ((with_reducible show ∃ p ys, [V.ref _] = [V.ref p] ∧ (SqL _ _ p ys ∨ SqT _ _ p ys) ∧ _); refine ⟨_, _, rfl, (by walk_at "seq"), ?_⟩)
  | ((with_reducible show tLc _ _ _ _ _ _ _ _); refine e_lc ?_)
  | ((with_reducible show tM0 _ _ _ _ _); refine e_m0 ?_)
  | ((with_reducible show tM1 _ _ _ _ _ _); refine e_m1 ?_)
  | ((with_reducible show ∃ k, V.str _ = V.str k ∧ _); refine e_exS ?_)
  | ((with_reducible show ∃ k, V.ref _ = V.ref k ∧ (∃ xs, SqL _ _ k xs) ∧ _); refine e_exR (by walk_at "sl") ?_)
  | ((with_reducible show ∃ k, V.ref _ = V.ref k ∧ (∃ xs, SqT _ _ k xs) ∧ _); refine e_exRT (by walk_at "slt") ?_)
  | ((with_reducible show ∃ j, [V.int _] = [V.int j] ∧ _ ≤ j ∧ j < _ ∧ _); refine e_rng1 (by omega) (by omega) ?_)
  | ((with_reducible show ∃ i j, [V.int _, V.int _] = [V.int i, V.int j] ∧ _ ∧ _); refine e_rng2 (by omega) ?_)
  | ((with_reducible show ∃ z', [V.str _] = [V.str z'] ∧ z'.length ≤ sizeLine ∧ _); refine ⟨_, rfl, (by walk_at "size"), ?_⟩)
  | ((with_reducible show (∃ a, V.str _ = V.str a) ∧ _); refine ⟨⟨_, rfl⟩, ?_⟩)
  | ((with_reducible show rSlS (V.str _) _ _ _ _); refine e_slS (by walk_at "size") ?_)
  | ((with_reducible show wipe _ _ = wipe _ _ ∧ _); refine ⟨rfl, ?_⟩)
  | ((with_reducible show List.length _ ≤ sizeLine ∧ ∀ p, _); refine ⟨(by walk_at "size"), fun p hp => ?_⟩)
  | ((with_reducible show rIsi _ _ _ _); first | refine isi_bb ?_ | refine isi_ib ?_ | refine isi_bi ?_ | refine isi_ii ?_ | refine isi_tt (by assumption) ?_ | refine isi_ll (by assumption) ?_)
  | ((with_reducible show spDraw _ _ _ _ _); refine ⟨_, _, _, rfl, _, _, _, _, rfl, rfl, rfl, (by walk_at "dr"), (by walk_at "ar"), (by walk_at "ar"), ?_⟩)
  | ((with_reducible show tUn _ _ _ _ _); refine e_un ?_)
  | ((with_reducible show rU _ (V.int _) _ _); refine e_U ?_)
  | ((with_reducible show ∃ i, [V.int _] = [V.int i] ∧ _); refine ⟨_, rfl, ?_⟩)
  | ((with_reducible show gTup _ _ _ _ _ _ _); refine ⟨_, _, rfl, (by walk_at "slt"), rfl, ?_⟩)
  | ((with_reducible show gCons _ _ _ _ _ _); refine ⟨_, _, rfl, ?_⟩)
  | ((with_reducible show gNil _ _ _ _); refine ⟨rfl, ?_⟩)
  | ((with_reducible show tAug _ _ _ _ _ _); refine e_aug rfl ?_)
  | ((with_reducible show if true = true then _ else _); refine i_T ?_)
  | ((with_reducible show if false = true then _ else _); refine i_F ?_))
local macro_rules | `(tactic| walk_at "st") => `(tactic| first | walk_at "st1" | walk_at "st2" | (dsimp only [List.append_nil, List.nil_append, List.cons_append, Bool.not_true, Bool.not_false]))
local macro_rules | `(tactic| walk_at "go") => `(tactic| repeat walk_at "st")
local macro_rules | `(tactic| walk_at "st") => `(tactic| first
  | ((with_reducible show iRevR _ _ _ _); refine e_iRevR ?_)
  | ((with_reducible show tRg1 _ _ _ _); refine e_rg1 ?_)
  | ((with_reducible show tRg2 _ _ _ _ _); refine e_rg2 ?_)
  | ((with_reducible show iEnum _ _ _ _ _); refine e_iEnum ?_)
  | ((with_reducible show iEnumT _ _ _ _ _); refine e_iEnumT ?_)
  | ((with_reducible show iRng3 _ _ _ _); refine e_iRng3 ?_)
  | ((with_reducible show ∃ p ys, [V.ref _] = [V.ref p] ∧ SqL _ _ p ys ∧ _); refine ⟨_, _, rfl, (by walk_at "sl"), ?_⟩)
  | ((with_reducible show ∃ p ys, [V.ref _] = [V.ref p] ∧ SqT _ _ p ys ∧ _); refine ⟨_, _, rfl, (by walk_at "slt"), ?_⟩)
  | ((with_reducible show tyV _ "list" (V.ref _) _ ∧ _); refine ⟨.inl ⟨rfl, _, (by walk_at "sl")⟩, ?_⟩)
  | ((with_reducible show ∃ a b, V.bl _ = V.bl a ∧ V.bl _ = V.bl b ∧ _); refine ⟨_, _, rfl, rfl, ?_⟩)
  | ((with_reducible show ∃ c, V.bl _ = V.bl c ∧ _); refine ⟨_, rfl, ?_⟩)
  | ((with_reducible show if (!true) = true then _ else _); refine i_F ?_)
  | ((with_reducible show if (!false) = true then _ else _); refine i_T ?_))
local macro_rules | `(tactic| walk_at "cond") => `(tactic| assumption)
local macro_rules | `(tactic| walk_at "st") => `(tactic| first
  | ((with_reducible show tDGet _ _ _ _ _); refine e_tDGet ?_)
  | ((with_reducible show tDGet2 _ _ _ _ _ _); refine e_tDGet2 ?_)
  | ((with_reducible show sDPut _ _ _ _ _ _); refine e_sDPut ?_))
section
variable {P : Program} {w : World} {K : PySem.W.Frag} {mg : Str → Option Value} {base : Heap}
theorem ok_count_of (T : Txt K mg)  {f : Addr} {fd : FuncData} (F : FnP K "count_of" s_count_of f fd) : FnOk P w K mg base CX0 1 f fd ["vector", "device"] (sp_count_of K) := by
  refine F.ok sc_count_of (fun vs H Q E h => ?_) (fun cdv A outer s H vs Q E hr h => ?_)
  · obtain ⟨_, _, rfl, _⟩ := h
    rfl
  · have S := sc_count_of
    refine ⟨_, PSs.nox (pss_cons (ps_for PassesOwn.never rfl (pi_tup (pv 0)) (pg_tup rfl (pgs_cons (pg_name (i := 2) S.nd rfl (by first | exact .inl rfl | exact .inr rfl)) (pgs_cons (pg_name (i := 3) S.nd rfl (by first | exact .inl rfl | exact .inr rfl)) pgs_nil)))
    (pss_one (ps_if (pt_cmpR op_eq (pv 2) (pv 1) (nomark _))
      (pss_one (ps_ret (pv 3)))
      pss_nil)))
    (pss_one (ps_ret pe_int))), ?_⟩
    try dsimp only [cxOf, Cx.nox]
    obtain ⟨_, _, rfl, a, v, d, rfl, rfl, ⟨ps, hS, hP⟩, k⟩ := h
    walk_at "go"
    refine for_vec hS hP (fun pre σ H1 => (∃ v2 v3, σ = [some (.ref a), some (.int d), v2, v3]) ∧ H1 = H ∧ ∀ c ∈ pre, ¬ c.1 = d) ⟨⟨_, _, rfl⟩, rfl, fun c hc => by cases hc⟩ (fun pre σ H1 q => by rw [q.2.1]; exact Same.refl H) (fun pre c post T σ H1 e q hT => ?_) (fun σ H1 q => ?_)
    · obtain ⟨⟨v2, v3, rfl⟩, rfl, q⟩ := q
      walk_at "go"
      refine i_d (fun h1 => ?_) (fun h1 => ?_)
      · walk_at "go"
        rw [e, cnt_app_out q] at k
        have e2 : cnt (c :: post) d = c.2 := by show (if c.1 = d then _ else _) = _; rw [if_pos h1]
        rw [e2] at k
        exact k
      · walk_at "go"
        exact ⟨⟨_, _, rfl⟩, rfl, fun x hx => by
          rcases List.mem_append.mp hx with hx | hx
          · exact q x hx
          · rw [List.mem_singleton.mp hx]; exact h1⟩
    · obtain ⟨⟨v2, v3, rfl⟩, rfl, q⟩ := q
      walk_at "go"
      have e2 : cnt v d = 0 := by
        rw [← List.append_nil v, cnt_app_out q]; rfl
      rw [e2] at k
      exact k
theorem ok_compare (T : Txt K mg) (c_is_less_somewhere : Cal P w K mg base 2 "_is_less_somewhere" (sp_is_less_somewhere K)) {f : Addr} {fd : FuncData} (F : FnP K "compare" s_compare f fd) : FnOk P w K mg base CX0 3 f fd ["first", "second"] (sp_compare K) := by
  refine F.ok sc_compare (fun vs H Q E h => ?_) (fun cdv A outer s H vs Q E hr h => ?_)
  · obtain ⟨_, _, rfl, _⟩ := h
    rfl
  · have S := sc_compare
    refine ⟨_, PSs.nox (pss_cons (ps_set (i := 2) S.nd rfl (by first | exact .inl rfl | exact .inr rfl) (pe_c c_is_less_somewhere hr (by decide) (by rfl) (pa_cons (pv 0) (pa_cons (pv 1) pa_nil))))
    (pss_cons (ps_set (i := 3) S.nd rfl (by first | exact .inl rfl | exact .inr rfl) (pe_c c_is_less_somewhere hr (by decide) (by rfl) (pa_cons (pv 1) (pa_cons (pv 0) pa_nil))))
    (pss_cons (ps_if (pw_and (pt_val (pv 2)) (pw_and1 (pt_val (pv 3)))).pt
    (pss_one (ps_ret pe_str))
    pss_nil)
    (pss_cons (ps_if (pt_val (pv 2))
    (pss_one (ps_ret pe_str))
    pss_nil)
    (pss_one (ps_ret (pe_ifExp (pt_val (pv 3)) pe_str pe_str))))))), ?_⟩
    try dsimp only [cxOf, Cx.nox]
    obtain ⟨_, _, rfl, a, b, v, w, rfl, rfl, hv, hw, k⟩ := h
    walk_at "go"
    refine ⟨_, _, rfl, a, b, v, w, rfl, rfl, hv, hw, ?_⟩
    walk_at "go"
    refine ⟨_, _, rfl, b, a, w, v, rfl, rfl, hw, hv, ?_⟩
    walk_at "go"
    generalize lessV v w = p at k ⊢
    generalize lessV w v = q at k ⊢
    cases p <;> cases q <;> (walk_at "go"; exact k)
theorem ok_is_less_somewhere (T : Txt K mg) (c_count_of : Cal P w K mg base 1 "count_of" (sp_count_of K)) {f : Addr} {fd : FuncData} (F : FnP K "_is_less_somewhere" s_is_less_somewhere f fd) : FnOk P w K mg base CX0 2 f fd ["first", "second"] (sp_is_less_somewhere K) := by
  refine F.ok sc_is_less_somewhere (fun vs H Q E h => ?_) (fun cdv A outer s H vs Q E hr h => ?_)
  · obtain ⟨_, _, rfl, _⟩ := h
    rfl
  · have S := sc_is_less_somewhere
    refine ⟨_, PSs.nox (pss_cons (ps_for PassesOwn.never rfl (pi_tup (pv 1)) (pg_tup rfl (pgs_cons (pg_name (i := 2) S.nd rfl (by first | exact .inl rfl | exact .inr rfl)) (pgs_cons (pg_name (i := 3) S.nd rfl (by first | exact .inl rfl | exact .inr rfl)) pgs_nil)))
    (pss_one (ps_if (pt_cmpR op_lt (pe_c c_count_of hr (by decide) (by rfl) (pa_cons (pv 0) (pa_cons (pv 2) pa_nil))) (pv 3) (nomark _))
      (pss_one (ps_ret pe_bl))
      pss_nil)))
    (pss_one (ps_ret pe_bl))), ?_⟩
    try dsimp only [cxOf, Cx.nox]
    obtain ⟨_, _, rfl, a, b, v, w, rfl, rfl, hv, ⟨ps, hS, hP⟩, k⟩ := h
    walk_at "go"
    refine for_vec hS hP (fun pre σ H1 => (∃ v2 v3, σ = [some (.ref a), some (.ref b), v2, v3]) ∧ H1 = H ∧ ∀ c ∈ pre, ¬ cnt v c.1 < c.2) ⟨⟨_, _, rfl⟩, rfl, fun c hc => by cases hc⟩ (fun pre σ H1 q => by rw [q.2.1]; exact Same.refl H) (fun pre c post T σ H1 e q hT => ?_) (fun σ H1 q => ?_)
    · obtain ⟨⟨v2, v3, rfl⟩, rfl, q⟩ := q
      walk_at "go"
      refine ⟨_, _, rfl, a, v, c.1, rfl, rfl, hv, ?_⟩
      walk_at "go"
      refine i_d (fun h1 => ?_) (fun h1 => ?_)
      · walk_at "go"
        have e2 : lessV v w = true := List.any_eq_true.mpr ⟨c, by rw [e]; simp, decide_eq_true h1⟩
        rw [e2] at k
        exact k
      · walk_at "go"
        exact ⟨⟨_, _, rfl⟩, rfl, fun x hx => by
          rcases List.mem_append.mp hx with hx | hx
          · exact q x hx
          · rw [List.mem_singleton.mp hx]; exact h1⟩
    · obtain ⟨⟨v2, v3, rfl⟩, rfl, q⟩ := q
      walk_at "go"
      have e2 : lessV v w = false := List.any_eq_false.mpr fun c hc => by rw [decide_eq_false (q c hc)]; exact Bool.false_ne_true
      rw [e2] at k
      exact k
theorem ok_join (T : Txt K mg) (c_vector : Cal P w K mg base 1 "_vector" (sp_vector K)) {f : Addr} {fd : FuncData} (F : FnP K "join" s_join f fd) : FnOk P w K mg base CX0 2 f fd ["first", "second"] (sp_join K) := by
  refine F.ok sc_join (fun vs H Q E h => ?_) (fun cdv A outer s H vs Q E hr h => ?_)
  · obtain ⟨_, _, rfl, _⟩ := h
    rfl
  · have S := sc_join
    refine ⟨_, PSs.nox (pss_cons (ps_set (i := 2) S.nd rfl (by first | exact .inl rfl | exact .inr rfl) (pe_callTy (call_dictPT rfl) (by rfl) T.f_dict (by first | rfl | decide +kernel) (pa_cons (pv 0) pa_nil)))
    (pss_cons (ps_for PassesOwn.never rfl (pi_tup (pv 1)) (pg_tup rfl (pgs_cons (pg_name (i := 3) S.nd rfl (by first | exact .inl rfl | exact .inr rfl)) (pgs_cons (pg_name (i := 4) S.nd rfl (by first | exact .inl rfl | exact .inr rfl)) pgs_nil)))
    (pss_one (ps_dput (hu_of hr) (pv 2) (pv 3) (pe_callB (call_max2 rfl) (by rfl) T.f_max (by first | rfl | decide +kernel) (pa_cons (pv 4) (pa_cons (pe_dget2 (hu_of hr) (pv 2) (pv 3) pe_int ⟨by rfl, by rfl, by rfl, by rfl⟩) pa_nil))) rfl)))
    (pss_one (ps_ret (pe_c c_vector hr (by decide) (by rfl) (pa_cons (pv 2) pa_nil)))))), ?_⟩
    try dsimp only [cxOf, Cx.nox]
    obtain ⟨_, _, rfl, a, b, f, g, rfl, rfl, hf, hg, ⟨ps, hS, hP⟩, ⟨qs, hT, hR⟩, k⟩ := h
    walk_at "go"
    obtain ⟨m0, em, gm, lm, cm⟩ := dict_made hf
    refine ⟨a, ps, kvl (made f), rfl, hS, prs_kvl hP, fun D hD => ?_⟩
    rw [em]
    have sD := same_new (o := .dK (kvl m0)) hD
    have hT0 := same_tup sD hT
    walk_at "go"
    refine for_vec hT hR (fun pre σ H1 => (∃ v3 v4, σ = [some (.ref a), some (.ref b), some (.ref D), v3, v4]) ∧ Same H H1 ∧ ∃ m, H1 D = some (.dK (kvl m)) ∧ Good m ∧ m.length ≤ 9 + pre.length ∧ ∀ k : Nat, k < 9 → cnt m (((k : Nat) : Int) + 1) = told mx pre (((k : Nat) : Int) + 1) (f k)) ⟨⟨_, _, rfl⟩, sD, m0, upd_same, gm, by simpa using lm, fun k hk => cm k hk⟩ (fun pre σ H1 q => q.2.1) (fun pre c post T σ H1 e q hT => ?_) (fun σ H1 q => ?_)
    · obtain ⟨⟨v3, v4, rfl⟩, s1, m, e1, g1, l1, c1⟩ := q
      have hc : c ∈ made g := by rw [e]; simp
      obtain ⟨h1, h9, h0⟩ := made_rg c hc
      have lp : pre.length ≤ 9 := by
        have := made_len g
        rw [e, List.length_append, List.length_cons] at this
        omega
      walk_at "go"
      refine ⟨D, rfl, .inl ⟨_, .inl e1⟩, ?_⟩
      walk_at "go"
      refine dg_or e1 fun o eo => ?_
      rw [eo]
      walk_at "go"
      refine ⟨_, _, rfl, ?_⟩
      walk_at "go"
      refine dp_put e1 (by omega) ?_
      refine ⟨⟨_, _, rfl⟩, Same.mut s1 hD, dput m c.1 (mx c.2 (cnt m c.1)), upd_same, good_dput g1 h1 h9 ?_, ?_, fun k hk => ?_⟩
      · unfold mx; split <;> omega
      · have := dput_len m c.1 (mx c.2 (cnt m c.1))
        rw [List.length_append]
        simp
        omega
      · rw [cnt_dput, told_app, told_one]
        by_cases hk2 : c.1 = ((k : Nat) : Int) + 1
        · rw [if_pos hk2, if_pos hk2, hk2, c1 k hk]
        · rw [if_neg hk2, if_neg hk2, c1 k hk]
    · obtain ⟨⟨v3, v4, rfl⟩, s1, m, e1, g1, l1, c1⟩ := q
      have := made_len g
      walk_at "go"
      refine ⟨_, rfl, D, m, rfl, e1, g1, by omega, fun r H' s2 hv => ?_⟩
      walk_at "go"
      refine k r H' (s1.trans s2) ?_
      rw [made_congr (g := fun k => cnt m (((k : Nat) : Int) + 1)) fun k hk => by rw [c1 k hk, max_made hf hk]]
      exact hv
theorem ok_raised (T : Txt K mg) (c_vector : Cal P w K mg base 1 "_vector" (sp_vector K)) {f : Addr} {fd : FuncData} (F : FnP K "raised" s_raised f fd) : FnOk P w K mg base CX0 2 f fd ["vector", "device", "number"] (sp_raised K) := by
  refine F.ok sc_raised (fun vs H Q E h => ?_) (fun cdv A outer s H vs Q E hr h => ?_)
  · obtain ⟨_, _, _, rfl, _⟩ := h
    rfl
  · have S := sc_raised
    refine ⟨_, PSs.nox (pss_cons (ps_set (i := 3) S.nd rfl (by first | exact .inl rfl | exact .inr rfl) (pe_callTy (call_dictPT rfl) (by rfl) T.f_dict (by first | rfl | decide +kernel) (pa_cons (pv 0) pa_nil)))
    (pss_cons (ps_dput (hu_of hr) (pv 3) (pv 1) (pv 2) rfl)
    (pss_one (ps_ret (pe_c c_vector hr (by decide) (by rfl) (pa_cons (pv 3) pa_nil)))))), ?_⟩
    try dsimp only [cxOf, Cx.nox]
    obtain ⟨_, _, _, rfl, a, f, j, n, rfl, rfl, rfl, hj, hn, hf, ⟨ps, hS, hP⟩, k⟩ := h
    walk_at "go"
    obtain ⟨m0, em, gm, lm, cm⟩ := dict_made hf
    refine ⟨a, ps, kvl (made f), rfl, hS, prs_kvl hP, fun D hD => ?_⟩
    rw [em]
    have sD := same_new (o := .dK (kvl m0)) hD
    walk_at "go"
    refine dp_put upd_same (by omega) ?_
    rw [upd_upd]
    walk_at "go"
    have := dput_len m0 (((j : Nat) : Int) + 1) n
    refine ⟨_, rfl, D, _, rfl, upd_same, good_dput gm (by omega) (by omega) hn, by omega, fun r H' s2 hv => ?_⟩
    walk_at "go"
    refine k r H' ((same_new hD).trans s2) ?_
    rw [made_congr (g := fun k => cnt (dput m0 (((j : Nat) : Int) + 1) n) (((k : Nat) : Int) + 1)) fun k hk => by
      rw [cnt_dput, cm k hk]
      by_cases e : k = j
      · rw [if_pos e, if_pos (by rw [e])]
      · rw [if_neg e, if_neg (by omega)]]
    exact hv
theorem ok_vector (T : Txt K mg)  {f : Addr} {fd : FuncData} (F : FnP K "_vector" s_vector f fd) : FnOk P w K mg base CX0 1 f fd ["counts"] (sp_vector K) := by
  refine F.ok sc_vector (fun vs H Q E h => ?_) (fun cdv A outer s H vs Q E hr h => ?_)
  · obtain ⟨_, rfl, _⟩ := h
    rfl
  · have S := sc_vector
    refine ⟨_, PSs.nox (pss_one (ps_ret (pe_callTy call_tupleF (by rfl) T.f_tuple (by first | rfl | decide +kernel) (pa_cons (pe_lc (own := [("device", 1)]) (g := gName 1) (tt := tYes) rfl S.nd (pi_list (pe_callB (call_sortedDI rfl) (by rfl) T.f_sorted (by first | rfl | decide +kernel) (pa_cons (pv 0) pa_nil))) (blkOk_by (N := N_vector) (sc := defScope s_vector) (by decide +kernel)) (fun _ _ _ _ _ => (pg_name (i := 1) S.nd rfl (by first | exact .inl rfl | exact .inr rfl))) (fun _ _ _ _ _ => pts_nil) (fun _ _ _ _ _ => (pe_tup (pa_cons (pv 1) (pa_cons (pe_dget (hu_of hr) (pv 0) (pv 1) (fun _ _ => rfl)) pa_nil))))) pa_nil)))), ?_⟩
    try dsimp only [cxOf, Cx.nox]
    obtain ⟨_, rfl, D, m, rfl, hD, hm, hl, k⟩ := h
    walk_at "go"
    have em : (kvl m).map (·.1) = (m.map (·.1)).map Sum.inl := by unfold kvl; rw [List.map_map, List.map_map]; rfl
    refine ⟨D, kvl m, m.map (·.1), rfl, .inl hD, em, by rw [List.length_map]; omega, fun ys p hp hs hpn => ?_⟩
    have s1 := same_new (o := .lst (ys.map V.int)) hpn
    have yl : ys.length = m.length := by rw [hp.length_eq, List.length_map]
    have p1 : (upd H p (.lst (ys.map V.int))) p = some (.lst (ys.map V.int)) := upd_same
    generalize upd H p (.lst (ys.map V.int)) = H1 at *
    have d1 := s1 _ _ hD
    walk_at "go"
    intro E hE
    refine lc_list (xs := ys.map V.int) (fun i H2 => Same H1 H2 ∧ ∃ ps : List Addr, H2 E = some (.lst (ps.map V.ref)) ∧ ps.length = i ∧ Prx H2 ps ((ys.take i).map fun y => (y, cnt m y))) ⟨same_new hE, [], upd_same, rfl, .nil⟩ (fun i H2 _ q => SqL.of (q.1 _ _ p1)) (fun i x H2 hx q => ?_) (fun H2 q => ?_)
    · obtain ⟨s2, ps, e2, l2, q2⟩ := q
      rw [List.getElem?_map] at hx
      obtain ⟨y, hy, rfl⟩ := Option.map_eq_some_iff.mp hx
      have hm2 : ∃ c ∈ m, c.1 = y := by
        have := hp.mem_iff.mp (List.mem_of_getElem? hy)
        exact List.mem_map.mp this
      have hi := (List.getElem?_eq_some_iff.mp hy).1
      walk_at "go"
      refine dg_some (s2 _ _ d1) hm2 ?_
      walk_at "go"
      rename_i t ht
      have s3 := same_new (o := .tup [.int y, .int (cnt m y)]) ht
      refine ⟨_, s3 _ _ e2, Nat.lt_of_le_of_lt (by rw [List.length_map]; omega : _ ≤ 1000000) (by decide), Same.mut (s2.trans s3) hE, ps ++ [t], by rw [upd_same, List.map_append]; rfl, by simp [l2], ?_⟩
      rw [List.take_add_one, hy]
      show Prx _ (ps ++ [t]) ((ys.take i ++ [y]).map _)
      rw [List.map_append]
      exact paired_snoc ((q2.same s3).upd (s3 _ _ e2)) (by
        have n : t ≠ E := fun z => by
          rw [z, e2] at ht
          cases ht
        show (upd _ E _) t = _
        rw [upd_ne n]; exact upd_same)
    · obtain ⟨s2, ps, e2, l2, q2⟩ := q
      walk_at "go"
      intro l H' hl2 s3 hp2 _
      refine k l H' ((s1.trans s2).trans s3) ⟨ps, hp2, ?_⟩
      rw [← vector_made hm hp hs]
      rw [List.length_map, List.take_length] at q2
      exact (q2.same s3).prs
theorem ok_counts_of (T : Txt K mg) (c_count_of : Cal P w K mg base 1 "count_of" (sp_count_of K)) {f : Addr} {fd : FuncData} (F : FnP K "counts_of" s_counts_of f fd) : FnOk P w K mg base CX0 2 f fd ["vector"] (sp_counts_of K) := by
  refine F.ok sc_counts_of (fun vs H Q E h => ?_) (fun cdv A outer s H vs Q E hr h => ?_)
  · obtain ⟨_, rfl, _⟩ := h
    rfl
  · have S := sc_counts_of
    refine ⟨_, PSs.nox (pss_one (ps_ret (pe_callTy call_tupleF (by rfl) T.f_tuple (by first | rfl | decide +kernel) (pa_cons (pe_lc (own := [("device", 1)]) (g := gName 1) (tt := tYes) rfl S.nd (pi_range2 (by rfl) T.f_range (pa_cons pe_int (pa_cons pe_int pa_nil))) (blkOk_by (N := N_counts_of) (sc := defScope s_counts_of) (by decide +kernel)) (fun _ _ _ _ _ => (pg_name (i := 1) S.nd rfl (by first | exact .inl rfl | exact .inr rfl))) (fun _ _ _ _ _ => pts_nil) (fun _ _ _ _ _ => (pe_c c_count_of hr (by decide) (by rfl) (pa_cons (pv 0) (pa_cons (pv 1) pa_nil))))) pa_nil)))), ?_⟩
    try dsimp only [cxOf, Cx.nox]
    obtain ⟨_, rfl, a, f, rfl, hf, hv, k⟩ := h
    walk_at "go"
    intro D hD
    refine lc_map_rng hD (by decide) (fun i => .int (f i)) (fun i H2 C E hi s2 hC => ?_) (fun H2 s2 e2 => ?_)
    · have hi : i < 9 := hi
      walk_at "go"
      refine ⟨_, _, rfl, a, made f, _, rfl, rfl, hv.same s2, ?_⟩
      rw [show (1 + (i : Int)) = ((i : Nat) : Int) + 1 from by omega, cnt_made hf hi]
      exact hC H2 (Same.refl H2)
    · walk_at "go"
      intro l H' hl s3 hp _
      refine k l H' (s2.trans s3) ?_
      have e : (row9 f).map V.int = (List.range (10 - 1 : Int).toNat).map fun i => V.int (f i) := by unfold row9; rw [List.map_map]; rfl
      rw [e]
      exact hp.seq
theorem ok_law_cell (T : Txt K mg)  {f : Addr} {fd : FuncData} (F : FnP K "_law_cell" s_law_cell f fd) : FnOk P w K mg base CX0 1 f fd ["script", "k"] (sp_law_cell K) := by
  refine F.ok sc_law_cell (fun vs H Q E h => ?_) (fun cdv A outer s H vs Q E hr h => ?_)
  · obtain ⟨_, _, rfl, _⟩ := h
    rfl
  · have S := sc_law_cell
    refine ⟨_, PSs.nox (pss_cons (ps_if (pt_cmpR op_lt (pv 1) (pe_callB call_len_seq (by rfl) T.f_len (by first | rfl | decide +kernel) (pa_cons (pv 0) pa_nil)) (nomark _))
    (pss_one (ps_ret (pe_callTy call_int1 (by rfl) T.f_int (by first | rfl | decide +kernel) (pa_cons (pe_ix ix_list (pv 0) (pv 1) (fun _ _ => rfl)) pa_nil))))
    pss_nil)
    (pss_one (ps_ret pe_int))), ?_⟩
    try dsimp only [cxOf, Cx.nox]
    obtain ⟨_, _, rfl, a, ns, i, rfl, rfl, hS, hl, hi, k⟩ := h
    walk_at "go"
    rw [List.length_map]
    refine i_d (fun h1 => ?_) (fun h1 => ?_)
    · walk_at "go"
      refine e_ixL hS (v := .int (ns.getD i 0)) (at_of (j := i) rfl (by rw [List.getElem?_map, List.getD_eq_getElem?_getD, List.getElem?_eq_getElem (by omega)]; rfl)) ?_
      walk_at "go"
      exact k _
    · walk_at "go"
      exact k _
theorem ok_law_vector (T : Txt K mg)  {f : Addr} {fd : FuncData} (F : FnP K "_law_vector" s_law_vector f fd) : FnOk P w K mg base CX0 1 f fd ["cell", "most"] (sp_law_vector K) := by
  refine F.ok sc_law_vector (fun vs H Q E h => ?_) (fun cdv A outer s H vs Q E hr h => ?_)
  · obtain ⟨_, _, rfl, _⟩ := h
    rfl
  · have S := sc_law_vector
    refine ⟨_, PSs.nox (pss_cons (ps_set (i := 2) S.nd rfl (by first | exact .inl rfl | exact .inr rfl) (pe_lst pa_nil))
    (pss_cons (ps_for PassesOwn.never rfl (pi_range2 (by rfl) T.f_range (pa_cons pe_int (pa_cons pe_int pa_nil))) (pg_name (i := 3) S.nd rfl (by first | exact .inl rfl | exact .inr rfl))
    (pss_one (ps_if (pt_cmpR op_eq (pe_op op_mod (pe_op op_fdivW (pv 0) (pe_op op_shl pe_int (pv 3))) pe_int) pe_int (nomark _))
      (pss_one (ps_expr (pe_bm PySem.F.plainAttrs_list PySem.F.slot_list_append PySem.F.type_list_append mt_append (pv 2) (pa_cons (pe_tup (pa_cons (pv 3) (pa_cons (pe_op op_add pe_int (pe_op op_mod (pe_op op_fdivW (pv 0) (pe_op op_mul pe_int (pv 3))) (pv 1))) pa_nil))) pa_nil))))
      pss_nil)))
    (pss_one (ps_ret (pe_callTy call_tupleF (by rfl) T.f_tuple (by first | rfl | decide +kernel) (pa_cons (pv 2) pa_nil)))))), ?_⟩
    try dsimp only [cxOf, Cx.nox]
    obtain ⟨_, _, rfl, n, rfl, rfl, k⟩ := h
    walk_at "go"
    rename_i D hD
    have sD := same_new (o := .lst []) hD
    obtain ⟨f, hf⟩ : ∃ f : Nat → Int, f = fun i : Nat => if n / (1 * 2 ^ (1 + (i : Int)).toNat) % 3 = 1 then 1 + n / (7 * (1 + (i : Int))) % 4 else 0 := ⟨_, rfl⟩
    refine for_rng (fun i σ H1 => (∃ v3, σ = [some (.int n), some (.int 4), some (.ref D), v3]) ∧ Same H H1 ∧ ∃ ps : List Addr, H1 D = some (.lst (ps.map V.ref)) ∧ ps.length ≤ i ∧ Prx H1 ps (madeN i f)) ⟨⟨_, rfl⟩, sD, [], upd_same, Nat.le_refl _, .nil⟩ (fun i σ H1 hi q => ?_) (fun σ H1 q => ?_)
    · obtain ⟨⟨v3, rfl⟩, s1, ps, e1, l1, q1⟩ := q
      have hi : i < 9 := hi
      have w1 : CPow 1 (1 + (i : Int)) := ⟨by omega, by omega, by decide⟩
      have w2 := p2 n hi
      have w3 : CDivW n (7 * (1 + (i : Int))) := wide_div (b := 60) (by omega) (by omega) (by decide) (by decide)
      have fi : f i = if n / (1 * 2 ^ (1 + (i : Int)).toNat) % 3 = 1 then 1 + n / (7 * (1 + (i : Int))) % 4 else 0 := by rw [hf]
      have w4 : (0 : Int) < 4 := by decide
      walk_at "go"
      refine i_d (fun h1 => ?_) (fun h1 => ?_)
      · rw [if_pos h1] at fi
        walk_at "go"
        rename_i t ht
        have s2 := same_new (o := .tup [.int (1 + (i : Int)), .int (1 + n / (7 * (1 + (i : Int))) % 4)]) ht
        have n1 : t ≠ D := fun z => by
          rw [z, e1] at ht
          cases ht
        refine e_app (s2 _ _ e1) (Nat.lt_of_le_of_lt (by rw [List.length_map]; omega : _ ≤ 1000000) (by decide)) ?_
        refine ⟨⟨_, rfl⟩, Same.mut (s1.trans s2) hD, ps ++ [t], by rw [upd_same, List.map_append]; rfl, by rw [List.length_append]; simp; omega, ?_⟩
        rw [madeN_succ, if_pos (by omega)]
        refine paired_snoc ((q1.same s2).upd (s2 _ _ e1)) ?_
        show (upd _ D _) t = _
        rw [upd_ne n1, upd_same, fi, show ((i : Nat) : Int) + 1 = 1 + (i : Int) from by omega]
      · rw [if_neg h1] at fi
        walk_at "go"
        refine ⟨⟨_, rfl⟩, s1, ps, e1, by omega, ?_⟩
        rw [madeN_succ, if_neg (by omega), List.append_nil]
        exact q1
    · obtain ⟨⟨v3, rfl⟩, s1, ps, e1, l1, q1⟩ := q
      walk_at "go"
      intro l H' hl s3 hp _
      refine k l f H' (s1.trans s3) (fun i => ?_) ⟨ps, hp, (q1.same s3).prs⟩
      rw [hf]
      dsimp only
      split <;> omega
theorem ok_law_counts (T : Txt K mg)  {f : Addr} {fd : FuncData} (F : FnP K "_law_counts" s_law_counts f fd) : FnOk P w K mg base CX0 1 f fd ["vector"] (sp_law_counts K) := by
  refine F.ok sc_law_counts (fun vs H Q E h => ?_) (fun cdv A outer s H vs Q E hr h => ?_)
  · obtain ⟨_, rfl, _⟩ := h
    rfl
  · have S := sc_law_counts
    refine ⟨_, PSs.nox (pss_cons (ps_setLc (i := 1) (own := [("device", 2)]) (g := gName 2) (tt := tYes) rfl S.nd rfl rfl (sw_true rfl rfl rfl (by decide +kernel)) (pi_range1 (by rfl) T.f_range (pa_cons pe_int pa_nil)) (blkOk_by (N := N_law_counts) (sc := defScope s_law_counts) (by decide +kernel)) (fun _ _ _ _ _ => (pg_name (i := 2) S.nd rfl (by first | exact .inl rfl | exact .inr rfl))) (fun _ _ _ _ _ => pts_nil) (fun _ _ _ _ _ => pe_int))
    (pss_cons (ps_for PassesOwn.never rfl (pi_tup (pv 0)) (pg_tup rfl (pgs_cons (pg_name (i := 2) S.nd rfl (by first | exact .inl rfl | exact .inr rfl)) (pgs_cons (pg_name (i := 3) S.nd rfl (by first | exact .inl rfl | exact .inr rfl)) pgs_nil)))
    (pss_one (ps_asg (pv 3) (pg_sub (pv 1) (pe_op op_sub (pv 2) pe_int) set_list))))
    (pss_one (ps_ret (pv 1))))), ?_⟩
    try dsimp only [cxOf, Cx.nox]
    obtain ⟨_, rfl, a, f, rfl, hf, ⟨ps, hS, hP⟩, k⟩ := h
    walk_at "go"
    intro D hD
    refine lc_map_rng hD (by decide) (fun i => .int 0) (fun i H2 C E hi s2 hC => ?_) (fun H2 s2 e2 => ?_)
    · walk_at "go"
      exact hC H2 (Same.refl H2)
    have hS2 := same_tup s2 hS
    walk_at "go"
    refine for_vec hS hP (fun pre σ H1 => (∃ v2 v3, σ = [some (.ref a), some (.ref D), v2, v3]) ∧ Same H H1 ∧ H1 D = some (.lst ((row9 fun k => told (fun c _ => c) pre (((k : Nat) : Int) + 1) 0).map V.int))) ⟨⟨_, _, rfl⟩, s2, by rw [e2]; rfl⟩ (fun pre σ H1 q => q.2.1) (fun pre c post T σ H1 e q hT => ?_) (fun σ H1 q => ?_)
    · obtain ⟨⟨v2, v3, rfl⟩, s1, e1⟩ := q
      obtain ⟨j, hj, hc, h0⟩ := madeN_mem (n := 9) (f := f) (c := c) (by show c ∈ made f; rw [e]; simp)
      walk_at "go"
      have ej : (c.1 - 1).toNat = j := by rw [hc]; show (((j : Nat) : Int) + 1 - 1).toNat = j; omega
      have h1 : 0 ≤ c.1 - 1 := by rw [hc]; show 0 ≤ ((j : Nat) : Int) + 1 - 1; omega
      have h2 : c.1 - 1 < 9 := by rw [hc]; show ((j : Nat) : Int) + 1 - 1 < 9; omega
      refine e_setL (j := (c.1 - 1).toNat) e1 (by unfold ixN; rw [if_pos h1, if_pos (by rw [row9_len]; exact h2)]) ?_
      refine ⟨⟨_, _, rfl⟩, Same.mut s1 hD, ?_⟩
      rw [upd_same, ej, ← List.map_set, row9_set _ hj]
      congr 3
      refine row9_inj fun k hk => ?_
      show (if k = j then c.2 else _) = _
      rw [told_app, told_one, hc]
      show _ = if ((j : Nat) : Int) + 1 = ((k : Nat) : Int) + 1 then f j else _
      by_cases e3 : k = j
      · rw [if_pos e3, if_pos (by rw [e3])]
      · rw [if_neg e3, if_neg (by omega)]
    · obtain ⟨⟨v2, v3, rfl⟩, s1, e1⟩ := q
      walk_at "go"
      refine k D H1 hD s1 ?_
      rw [e1, row9_inj fun k hk => last_made hf hk]
theorem ok_law_due (T : Txt K mg)  {f : Addr} {fd : FuncData} (F : FnP K "_law_due" s_law_due f fd) : FnOk P w K mg base CX0 1 f fd ["first", "second"] (sp_law_due K) := by
  refine F.ok sc_law_due (fun vs H Q E h => ?_) (fun cdv A outer s H vs Q E hr h => ?_)
  · obtain ⟨_, _, rfl, _⟩ := h
    rfl
  · have S := sc_law_due
    refine ⟨_, PSs.nox (pss_cons (ps_setLc (i := 2) (own := [("k", 4)]) (g := gName 4) rfl S.nd rfl rfl (sw_true rfl rfl rfl (by decide +kernel)) (pi_range1 (by rfl) T.f_range (pa_cons pe_int pa_nil)) (blkOk_by (N := N_law_due) (sc := defScope s_law_due) (by decide +kernel)) (fun _ _ _ _ _ => (pg_name (i := 4) S.nd rfl (by first | exact .inl rfl | exact .inr rfl))) (fun _ _ _ _ _ => (pts_one (pt_cmpR op_lt (pe_ix (ixL K) (pv 0) (pv 4) (fun _ _ => rfl)) (pe_ix (ixL K) (pv 1) (pv 4) (fun _ _ => rfl)) (nomark _)))) (fun _ _ _ _ _ => (pv 4)))
    (pss_cons (ps_setLc (i := 3) (own := [("k", 4)]) (g := gName 4) rfl S.nd rfl rfl (sw_true rfl rfl rfl (by decide +kernel)) (pi_range1 (by rfl) T.f_range (pa_cons pe_int pa_nil)) (blkOk_by (N := N_law_due) (sc := defScope s_law_due) (by decide +kernel)) (fun _ _ _ _ _ => (pg_name (i := 4) S.nd rfl (by first | exact .inl rfl | exact .inr rfl))) (fun _ _ _ _ _ => (pts_one (pt_cmpR op_gt (pe_ix (ixL K) (pv 0) (pv 4) (fun _ _ => rfl)) (pe_ix (ixL K) (pv 1) (pv 4) (fun _ _ => rfl)) (nomark _)))) (fun _ _ _ _ _ => (pv 4)))
    (pss_cons (ps_if (pw_and (pt_cmpR (op_eqD hr.units) (pv 2) (pe_lst pa_nil) (nomark _)) (pw_and1 (pt_cmpR (op_eqD hr.units) (pv 3) (pe_lst pa_nil) (nomark _)))).pt
    (pss_one (ps_ret pe_str))
    pss_nil)
    (pss_cons (ps_if (pt_cmpR (op_eqD hr.units) (pv 3) (pe_lst pa_nil) (nomark _))
    (pss_one (ps_ret pe_str))
    pss_nil)
    (pss_cons (ps_if (pt_cmpR (op_eqD hr.units) (pv 2) (pe_lst pa_nil) (nomark _))
    (pss_one (ps_ret pe_str))
    pss_nil)
    (pss_one (ps_ret pe_str))))))), ?_⟩
    try dsimp only [cxOf, Cx.nox]
    obtain ⟨_, _, rfl, a, b, f, g, rfl, rfl, ha, hb, k⟩ := h
    walk_at "go"
    intro D hD
    refine lc_filt (K := K) hD (by decide) (fun i => decide (f i < g i)) (fun i => .int (0 + (i : Int))) (fun i H2 C E hi s2 h1 h2 => ?_) (fun H2 s2 e2 => ?_)
    · have hi : i < 9 := hi
      walk_at "go"
      refine e_ixL (s2.seq ha) (row9_at f hi (by omega)) ?_
      walk_at "go"
      refine e_ixL (s2.seq hb) (row9_at g hi (by omega)) ?_
      walk_at "go"
      refine i_d (fun q => ?_) (fun q => ?_)
      · walk_at "go"
        exact h1 (decide_eq_true q) H2 (Same.refl H2)
      · exact h2 (decide_eq_false q) H2 (Same.refl H2)
    walk_at "go"
    intro E hE
    refine lc_filt (K := K) hE (by decide) (fun i => decide (g i < f i)) (fun i => .int (0 + (i : Int))) (fun i H3 C E' hi s3 h1 h2 => ?_) (fun H3 s3 e3 => ?_)
    · have hi : i < 9 := hi
      walk_at "go"
      refine e_ixL (s3.seq (s2.seq ha)) (row9_at f hi (by omega)) ?_
      walk_at "go"
      refine e_ixL (s3.seq (s2.seq hb)) (row9_at g hi (by omega)) ?_
      walk_at "go"
      refine i_d (fun q => ?_) (fun q => ?_)
      · walk_at "go"
        exact h1 (decide_eq_true q) H3 (Same.refl H3)
      · exact h2 (decide_eq_false q) H3 (Same.refl H3)
    have dD : SqL K H3 D ((((List.range 9).filter fun i => decide (f i < g i)).map fun i : Nat => (0 + (i : Int))).map V.int) := by
      rw [List.map_map]
      exact SqL.of (s3 _ _ e2)
    have dE : SqL K H3 E ((((List.range 9).filter fun i => decide (g i < f i)).map fun i : Nat => (0 + (i : Int))).map V.int) := by
      rw [List.map_map]
      exact SqL.of e3
    have s23 := s2.trans s3
    have n1 := nil_less f g fun i => (0 + (i : Int))
    have n2 := nil_less g f fun i => (0 + (i : Int))
    generalize lessF 9 f g = p at k n1
    generalize lessF 9 g f = q at k n2
    walk_at "go"
    rename_i r0 hr0
    have t0 := same_new (o := .lst []) hr0
    refine e_eqLL (ys := []) (t0.seq dD) (SqL.of upd_same) ?_
    rw [n1]
    cases p
    · walk_at "go"
      rename_i r1 hr1
      have t1 := same_new (o := .lst []) hr1
      refine e_eqLL (ys := []) (t1.seq (t0.seq dE)) (SqL.of upd_same) ?_
      rw [n2]
      cases q
      · walk_at "go"
        exact k _ (s23.trans (t0.trans t1))
      · walk_at "go"
        rename_i r2 hr2
        have t2 := same_new (o := .lst []) hr2
        refine e_eqLL (ys := []) (t2.seq (t1.seq (t0.seq dE))) (SqL.of upd_same) ?_
        rw [n2]
        walk_at "go"
        rename_i r3 hr3
        have t3 := same_new (o := .lst []) hr3
        refine e_eqLL (ys := []) (t3.seq (t2.seq (t1.seq (t0.seq dD)))) (SqL.of upd_same) ?_
        rw [n1]
        walk_at "go"
        exact k _ (s23.trans (t0.trans (t1.trans (t2.trans t3))))
    · walk_at "go"
      rename_i r1 hr1
      have t1 := same_new (o := .lst []) hr1
      refine e_eqLL (ys := []) (t1.seq (t0.seq dE)) (SqL.of upd_same) ?_
      rw [n2]
      cases q
      · walk_at "go"
        exact k _ (s23.trans (t0.trans t1))
      · walk_at "go"
        rename_i r2 hr2
        have t2 := same_new (o := .lst []) hr2
        refine e_eqLL (ys := []) (t2.seq (t1.seq (t0.seq dD))) (SqL.of upd_same) ?_
        rw [n1]
        walk_at "go"
        exact k _ (s23.trans (t0.trans (t1.trans t2)))
theorem ok_law_made (T : Txt K mg)  {f : Addr} {fd : FuncData} (F : FnP K "_law_made" s_law_made f fd) : FnOk P w K mg base CX0 1 f fd ["counts"] (sp_law_made K) := by
  refine F.ok sc_law_made (fun vs H Q E h => ?_) (fun cdv A outer s H vs Q E hr h => ?_)
  · obtain ⟨_, rfl, _⟩ := h
    rfl
  · have S := sc_law_made
    refine ⟨_, PSs.nox (pss_one (ps_ret (pe_callTy call_tupleF (by rfl) T.f_tuple (by first | rfl | decide +kernel) (pa_cons (pe_lc (own := [("k", 1)]) (g := gName 1) rfl S.nd (pi_range1 (by rfl) T.f_range (pa_cons pe_int pa_nil)) (blkOk_by (N := N_law_made) (sc := defScope s_law_made) (by decide +kernel)) (fun _ _ _ _ _ => (pg_name (i := 1) S.nd rfl (by first | exact .inl rfl | exact .inr rfl))) (fun _ _ _ _ _ => (pts_one (pt_cmpR op_gt (pe_ix (ixL K) (pv 0) (pv 1) (fun _ _ => rfl)) pe_int (nomark _)))) (fun _ _ _ _ _ => (pe_tup (pa_cons (pe_op op_add (pv 1) pe_int) (pa_cons (pe_ix (ixL K) (pv 0) (pv 1) (fun _ _ => rfl)) pa_nil))))) pa_nil)))), ?_⟩
    try dsimp only [cxOf, Cx.nox]
    obtain ⟨_, rfl, a, f, rfl, ha, k⟩ := h
    walk_at "go"
    intro D hD
    refine lc_rng (fun i H2 => Same H H2 ∧ ∃ ps : List Addr, H2 D = some (.lst (ps.map V.ref)) ∧ ps.length ≤ i ∧ Prx H2 ps (madeN i f)) ⟨same_new hD, [], upd_same, Nat.le_refl _, .nil⟩ (fun i H2 hi q => ?_) (fun H2 q => ?_)
    · obtain ⟨s2, ps, e2, l2, q2⟩ := q
      have hi : i < 9 := hi
      walk_at "go"
      refine e_ixL (s2.seq ha) (row9_at f hi (by omega)) ?_
      walk_at "go"
      refine i_d (fun h1 => ?_) (fun h1 => ?_)
      · walk_at "go"
        refine e_ixL (s2.seq ha) (row9_at f hi (by omega)) ?_
        walk_at "go"
        rename_i t ht
        have s3 := same_new (o := .tup [.int (0 + (i : Int) + 1), .int (f i)]) ht
        have n1 : t ≠ D := fun z => by
          rw [z, e2] at ht
          cases ht
        refine ⟨_, s3 _ _ e2, Nat.lt_of_le_of_lt (by rw [List.length_map]; omega : _ ≤ 1000000) (by decide), Same.mut (s2.trans s3) hD, ps ++ [t], by rw [upd_same, List.map_append]; rfl, by rw [List.length_append]; simp; omega, ?_⟩
        rw [madeN_succ, if_pos h1]
        refine paired_snoc ((q2.same s3).upd (s3 _ _ e2)) ?_
        show (upd _ D _) t = _
        rw [upd_ne n1, upd_same, show ((i : Nat) : Int) + 1 = 0 + (i : Int) + 1 from by omega]
      · refine ⟨s2, ps, e2, by omega, ?_⟩
        rw [madeN_succ, if_neg h1, List.append_nil]
        exact q2
    · obtain ⟨s2, ps, e2, l2, q2⟩ := q
      walk_at "go"
      intro l H' hl s3 hp _
      exact k l H' (s2.trans s3) ⟨ps, hp.seq, (q2.same s3).prs⟩
theorem ok_law (T : Txt K mg) (c_law_vector : Cal P w K mg base 1 "_law_vector" (sp_law_vector K)) (c_law_cell : Cal P w K mg base 1 "_law_cell" (sp_law_cell K)) (c_law_counts : Cal P w K mg base 1 "_law_counts" (sp_law_counts K)) (c_count_of : Cal P w K mg base 1 "count_of" (sp_count_of K)) (c_counts_of : Cal P w K mg base 2 "counts_of" (sp_counts_of K)) (c_compare : Cal P w K mg base 3 "compare" (sp_compare K)) (c_law_due : Cal P w K mg base 1 "_law_due" (sp_law_due K)) (c_join : Cal P w K mg base 2 "join" (sp_join K)) (c_law_made : Cal P w K mg base 1 "_law_made" (sp_law_made K)) (c_raised : Cal P w K mg base 2 "raised" (sp_raised K)) {f : Addr} {fd : FuncData} (F : FnP K "law" s_law f fd) : FnOk P w K mg base CX0 4 f fd ["script"] (sp_law K) := by
  refine F.ok sc_law (fun vs H Q E h => ?_) (fun cdv A outer s H vs Q E hr h => ?_)
  · obtain ⟨_, rfl, _⟩ := h
    rfl
  · have S := sc_law
    refine ⟨_, PSs.nox (pss_cons (ps_for PassesOwn.never rfl (pi_range1 (by rfl) T.f_range (pa_cons pe_int pa_nil)) (pg_name (i := 1) S.nd rfl (by first | exact .inl rfl | exact .inr rfl))
    (pss_cons (ps_set (i := 2) S.nd rfl (by first | exact .inl rfl | exact .inr rfl) (pe_c c_law_vector hr (by decide) (by rfl) (pa_cons (pe_c c_law_cell hr (by decide) (by rfl) (pa_cons (pv 0) (pa_cons (pe_op op_mul pe_int (pv 1)) pa_nil))) (pa_cons pe_int pa_nil))))
      (pss_cons (ps_set (i := 3) S.nd rfl (by first | exact .inl rfl | exact .inr rfl) (pe_c c_law_vector hr (by decide) (by rfl) (pa_cons (pe_c c_law_cell hr (by decide) (by rfl) (pa_cons (pv 0) (pa_cons (pe_op op_add (pe_op op_mul pe_int (pv 1)) pe_int) pa_nil))) (pa_cons pe_int pa_nil))))
      (pss_cons (ps_set (i := 4) S.nd rfl (by first | exact .inl rfl | exact .inr rfl) (pe_c c_law_cell hr (by decide) (by rfl) (pa_cons (pv 0) (pa_cons (pe_op op_add pe_int (pv 1)) pa_nil))))
      (C8.pss_cut (ps_if (pt_cmpR op_eq (pe_op op_mod (pv 4) pe_int) pe_int (nomark _))
      (pss_one (ps_set (i := 3) S.nd rfl (by first | exact .inl rfl | exact .inr rfl) (pe_op op_catA (pv 2) (pe_tup pa_nil))))
      pss_nil)
      (pss_cons (ps_set (i := 5) S.nd rfl (by first | exact .inl rfl | exact .inr rfl) (pe_c c_law_counts hr (by decide) (by rfl) (pa_cons (pv 2) pa_nil)))
      (pss_cons (ps_set (i := 6) S.nd rfl (by first | exact .inl rfl | exact .inr rfl) (pe_c c_law_counts hr (by decide) (by rfl) (pa_cons (pv 3) pa_nil)))
      (pss_cons (ps_set (i := 7) S.nd rfl (by first | exact .inl rfl | exact .inr rfl) (pe_op op_add pe_int (pe_op op_mod (pe_op op_fdivW (pv 4) pe_int) pe_int)))
      (pss_cons (ps_set (i := 8) S.nd rfl (by first | exact .inl rfl | exact .inr rfl) (pe_op op_add (pe_op op_add (pe_ix ix_list (pv 5) (pe_op op_sub (pv 7) pe_int) (fun _ _ => rfl)) pe_int) (pe_op op_mod (pe_op op_fdivW (pv 4) pe_int) pe_int)))
      (pss_cons (ps_if (pw_or (pt_cmpR (op_neD hr.units) (pe_c c_counts_of hr (by decide) (by rfl) (pa_cons (pv 2) pa_nil)) (pe_callTy call_tupleF (by rfl) T.f_tuple (by first | rfl | decide +kernel) (pa_cons (pv 5) pa_nil)) (nomark _)) (pw_or1 (pt_cmpR (op_neD hr.units) (pe_lc (own := [("k", 9)]) (g := gName 9) (tt := tYes) rfl S.nd (pi_range1 (by rfl) T.f_range (pa_cons pe_int pa_nil)) (blkOk_by (N := N_law) (sc := defScope s_law) (by decide +kernel)) (fun _ _ _ _ _ => (pg_name (i := 9) S.nd rfl (by first | exact .inl rfl | exact .inr rfl))) (fun _ _ _ _ _ => pts_nil) (fun _ _ _ _ _ => (pe_c c_count_of hr (by decide) (by rfl) (pa_cons (pv 2) (pa_cons (pe_op op_add (pv 9) pe_int) pa_nil))))) (pv 5) (nomark _)))).pt
      (pss_one (ps_ret pe_bl))
      pss_nil)
      (pss_cons (ps_if (pw_or (pt_cmpR op_ne (pe_c c_compare hr (by decide) (by rfl) (pa_cons (pv 2) (pa_cons (pv 3) pa_nil))) (pe_c c_law_due hr (by decide) (by rfl) (pa_cons (pv 5) (pa_cons (pv 6) pa_nil))) (nomark _)) (pw_or1 (pt_cmpR op_ne (pe_c c_compare hr (by decide) (by rfl) (pa_cons (pv 3) (pa_cons (pv 2) pa_nil))) (pe_c c_law_due hr (by decide) (by rfl) (pa_cons (pv 6) (pa_cons (pv 5) pa_nil))) (nomark _)))).pt
      (pss_one (ps_ret pe_bl))
      pss_nil)
      (pss_cons (ps_if (pt_cmpR (op_neD hr.units) (pe_c c_join hr (by decide) (by rfl) (pa_cons (pv 2) (pa_cons (pv 3) pa_nil))) (pe_c c_law_made hr (by decide) (by rfl) (pa_cons (pe_lc (own := [("k", 9)]) (g := gName 9) (tt := tYes) rfl S.nd (pi_range1 (by rfl) T.f_range (pa_cons pe_int pa_nil)) (blkOk_by (N := N_law) (sc := defScope s_law) (by decide +kernel)) (fun _ _ _ _ _ => (pg_name (i := 9) S.nd rfl (by first | exact .inl rfl | exact .inr rfl))) (fun _ _ _ _ _ => pts_nil) (fun _ _ _ _ _ => (pe_callB (call_max2 rfl) (by rfl) T.f_max (by first | rfl | decide +kernel) (pa_cons (pe_ix (ixL K) (pv 5) (pv 9) (fun _ _ => rfl)) (pa_cons (pe_ix (ixL K) (pv 6) (pv 9) (fun _ _ => rfl)) pa_nil))))) pa_nil)) (nomark _))
      (pss_one (ps_ret pe_bl))
      pss_nil)
      (pss_cons (ps_asg (pv 8) (pg_sub (pv 5) (pe_op op_sub (pv 7) pe_int) set_list))
      (pss_one (ps_if (pw_or (pt_cmpR (op_neD hr.units) (pe_c c_raised hr (by decide) (by rfl) (pa_cons (pv 2) (pa_cons (pv 7) (pa_cons (pv 8) pa_nil)))) (pe_c c_law_made hr (by decide) (by rfl) (pa_cons (pv 5) pa_nil)) (nomark _)) (pw_or1 (pt_cmpR op_ne (pe_c c_compare hr (by decide) (by rfl) (pa_cons (pv 2) (pa_cons (pe_c c_raised hr (by decide) (by rfl) (pa_cons (pv 2) (pa_cons (pv 7) (pa_cons (pv 8) pa_nil)))) pa_nil))) pe_str (nomark _)))).pt
      (pss_one (ps_ret pe_bl))
      pss_nil)))))))))))))))
    (pss_one (ps_ret pe_bl))), ?_⟩
    try dsimp only [cxOf, Cx.nox]
    obtain ⟨_, rfl, sa, ns, rfl, hS, hlen, k⟩ := h
    walk_at "go"
    refine for_rng (fun i σ H1 => (∃ v1 v2 v3 v4 v5 v6 v7 v8 v9, σ = [some (.ref sa), v1, v2, v3, v4, v5, v6, v7, v8, v9]) ∧ Same H H1) ⟨⟨_, _, _, _, _, _, _, _, _, rfl⟩, Same.refl H⟩ (fun i σ H1 hi q => ?_) (fun σ H1 q => ?_)
    · obtain ⟨⟨v1, v2, v3, v4, v5, v6, v7, v8, v9, rfl⟩, s1⟩ := q
      have hi : i < 8 := hi
      have S1 := s1.seq hS
      walk_at "go"
      refine ⟨_, _, rfl, sa, ns, 2 * i, rfl, congrArg V.int (by omega), S1, by omega, by omega, fun c1 => ?_⟩
      walk_at "go"
      refine ⟨_, _, rfl, c1, rfl, rfl, fun r1 f H2 s2 hf p1 => ?_⟩
      walk_at "go"
      refine ⟨_, _, rfl, sa, ns, 2 * i + 1, rfl, congrArg V.int (by omega), s2.seq S1, by omega, by omega, fun c2 => ?_⟩
      walk_at "go"
      refine ⟨_, _, rfl, c2, rfl, rfl, fun r2 g0 H3 s3 hg0 p2 => ?_⟩
      walk_at "go"
      refine ⟨_, _, rfl, sa, ns, 16 + i, rfl, congrArg V.int (by omega), s3.seq (s2.seq S1), by omega, by omega, fun c3 => ?_⟩
      walk_at "go"
      have p1 := p1.same s3
      have s13 := s1.trans (s2.trans s3)
      clear S1 s1 s2 s3
      refine e_cut (Mid := fun σ' H' => ∃ (r : Addr) (g : Nat → Int), σ' = [some (.ref sa), some (.int (0 + (i : Int))), some (.ref r1), some (.ref r), some (.int c3), v5, v6, v7, v8, v9] ∧ Same H3 H' ∧ Vec K H' r (made g) ∧ ∀ k, 0 ≤ g k) ?_ ?_
      · walk_at "go"
        refine i_d (fun h1 => ?_) (fun h1 => ?_)
        · walk_at "go"
          rename_i t ht
          have s4 := same_new (o := .tup []) ht
          have p4 := p1.same s4
          obtain ⟨ps, q1, q2⟩ := p4
          refine ⟨r1, t, _, [], rfl, rfl, q1.seq, SqT.of upd_same, ?_, fun z => ?_, fun _ _ => ?_, fun _ z => absurd rfl z⟩
          · rw [List.length_map, paired_len q2]
            exact Nat.le_trans (Nat.le_trans (made_len f) (by decide : 9 ≤ 1000000)) (by decide)
          · have e0 : made f = [] := by
              have := paired_len q2
              rw [List.map_eq_nil_iff.mp z] at this
              exact List.eq_nil_of_length_eq_zero this.symm
            exact ⟨t, f, rfl, s4, ⟨[], SqT.of upd_same, by rw [e0]; exact .nil⟩, hf⟩
          · exact ⟨r1, f, rfl, s4, ⟨ps, q1.seq, q2⟩, hf⟩
        · walk_at "go"
          exact ⟨r2, g0, rfl, Same.refl H3, p2.vec, hg0⟩
      rintro σ' H4 ⟨r, g, rfl, s4, w4, hg⟩
      have p4 := p1.same s4
      have s14 := s13.trans s4
      clear p1 p2 s13 s4 hg0
      walk_at "go"
      refine ⟨_, rfl, r1, f, rfl, hf, p4.vec, fun ra H5 hra s5 ea => ?_⟩
      have p5 := p4.same s5
      have w5 := w4.same s5
      walk_at "go"
      refine ⟨_, rfl, r, g, rfl, hg, w5, fun rb H6 hrb s6 eb => ?_⟩
      have p6 := p5.same s6
      have w6 := w5.same s6
      have a6 := s6 _ _ ea
      have s56 := s5.trans s6
      clear p5 w5 w4 ea s5 s6
      obtain ⟨j, hj⟩ : ∃ j : Nat, j = (c3 / 3 % 9).toNat := ⟨_, rfl⟩
      have j9 : j < 9 := by omega
      have nj : ((j : Nat) : Int) = c3 / 3 % 9 := by omega
      walk_at "go"
      refine e_ixL (SqL.of a6) (row9_at f j9 (by omega)) ?_
      walk_at "go"
      have hn : 0 < f j + 1 + c3 / 27 % 5 ∧ f j < f j + 1 + c3 / 27 % 5 := by
        have := hf j
        omega
      obtain ⟨n, en⟩ : ∃ n : Int, n = f j + 1 + c3 / 27 % 5 := ⟨_, rfl⟩
      rw [← en] at hn ⊢
      refine ⟨_, rfl, r1, f, rfl, hf, p6.vec, fun t1 H7 s7 e7 => ?_⟩
      have a7 := s7 _ _ a6
      walk_at "go"
      intro t2 H8 ht2 s8 e8 _
      walk_at "go"
      refine e_neTT (same_tup s8 e7) e8.seq ?_
      walk_at "go"
      refine i_neself ?_
      have s78 := s7.trans s8
      have p8 := p6.same s78
      have w8 := w6.same s78
      have a8 := s78 _ _ a6
      have b8 := s78 _ _ eb
      have s58 := s56.trans s78
      clear p6 w6 a6 eb s7 s8 s78 a7 e7 e8 s56
      walk_at "go"
      intro E hE
      refine lc_map_rng hE (by decide) (fun i => .int (f i)) (fun i H9 C E' hi s9 hC => ?_) (fun H9 s9 e9 => ?_)
      · have hi : i < 9 := hi
        walk_at "go"
        refine ⟨_, _, rfl, r1, made f, _, rfl, rfl, (p8.same s9).vec, ?_⟩
        rw [show (0 + (i : Int) + 1) = ((i : Nat) : Int) + 1 from by omega, cnt_made hf hi]
        exact hC H9 (Same.refl H9)
      have E9 : SqL K H9 E ((row9 f).map V.int) := by
        unfold row9
        rw [List.map_map]
        exact SqL.of e9
      have p9 := p8.same s9
      have w9 := w8.same s9
      have a9 := s9 _ _ a8
      have b9 := s9 _ _ b8
      have s59 := s58.trans s9
      clear p8 w8 a8 b8 s58 s9 e9 hE
      walk_at "go"
      refine e_neLL E9 (SqL.of a9) ?_
      walk_at "go"
      refine i_neself ?_
      have l1 : lessV (made f) (made g) = lessF 9 f g := less_madeN hf 9 (Nat.le_refl 9)
      have l2 : lessV (made g) (made f) = lessF 9 g f := less_madeN hg 9 (Nat.le_refl 9)
      clear E9
      walk_at "go"
      refine ⟨_, _, rfl, r1, r, made f, made g, rfl, rfl, p9.vec, w9, ?_⟩
      rw [l1, l2]
      walk_at "go"
      refine ⟨_, _, rfl, ra, rb, f, g, rfl, rfl, SqL.of a9, SqL.of b9, fun Ha sa1 => ?_⟩
      walk_at "go"
      refine i_neself ?_
      walk_at "go"
      refine ⟨_, _, rfl, r, r1, made g, made f, rfl, rfl, w9.same sa1, (p9.same sa1).vec, ?_⟩
      rw [l1, l2]
      walk_at "go"
      refine ⟨_, _, rfl, rb, ra, g, f, rfl, rfl, SqL.of (sa1 _ _ b9), SqL.of (sa1 _ _ a9), fun Hb sb1 => ?_⟩
      walk_at "go"
      refine i_neself ?_
      have sab := sa1.trans sb1
      have pb := p9.same sab
      have wb := w9.same sab
      have ab := sab _ _ a9
      have bb := sab _ _ b9
      have s5b := s59.trans sab
      clear p9 w9 a9 b9 s59 sab sa1 sb1 l1 l2
      walk_at "go"
      refine ⟨_, _, rfl, r1, r, f, g, rfl, rfl, hf, hg, pb, wb, fun u1 Hc sc1 pc => ?_⟩
      walk_at "go"
      intro G hG
      refine lc_map_rng hG (by decide) (fun i => .int (mx (f i) (g i))) (fun i Hd C E' hi s9 hC => ?_) (fun Hd sd1 e9 => ?_)
      · have hi : i < 9 := hi
        walk_at "go"
        refine e_ixL (SqL.of (s9 _ _ (sc1 _ _ ab))) (row9_at f hi (by omega)) ?_
        walk_at "go"
        refine e_ixL (SqL.of (s9 _ _ (sc1 _ _ bb))) (row9_at g hi (by omega)) ?_
        walk_at "go"
        refine ⟨_, _, rfl, ?_⟩
        exact hC Hd (Same.refl Hd)
      have G9 : SqL K Hd G ((row9 fun i => mx (f i) (g i)).map V.int) := by
        unfold row9
        rw [List.map_map]
        exact SqL.of e9
      walk_at "go"
      refine ⟨_, rfl, G, _, rfl, G9, fun u2 He se1 pe => ?_⟩
      walk_at "go"
      refine e_neVV ((pc.same (sd1.trans se1)).vec) pe ?_
      walk_at "go"
      refine i_neself ?_
      have sce := sc1.trans (sd1.trans se1)
      have pf := pb.same sce
      have af := sce _ _ ab
      have s5e := s5b.trans sce
      clear pb wb ab bb s5b sce sc1 sd1 se1 pc pe G9 e9 hG
      walk_at "go"
      refine e_setL (j := j) af (by unfold ixN; rw [if_pos (by omega), if_pos (by rw [row9_len]; omega)]; congr 1; omega) ?_
      have s5f := Same.mut (o := .lst (((row9 f).map V.int).set j (.int n))) s5e hra
      have pz := p4.same s5f
      have sz := s14.trans s5f
      have az : (upd He ra (.lst (((row9 f).map V.int).set j (.int n)))) ra = some (.lst ((row9 fun k => if k = j then n else f k).map V.int)) := by rw [upd_same, ← List.map_set, row9_set f j9]
      generalize upd He ra (.lst (((row9 f).map V.int).set j (.int n))) = Hf at *
      have hf2 : ∀ k, 0 ≤ (if k = j then n else f k) := fun k => by
        split
        · omega
        · exact hf k
      have l1 : lessV (made f) (made fun k => if k = j then n else f k) = true := by
        refine (less_madeN hf 9 (Nat.le_refl 9)).trans (List.any_eq_true.mpr ⟨j, List.mem_range.mpr j9, decide_eq_true ?_⟩)
        dsimp only
        rw [if_pos rfl]
        exact hn.2
      have l2 : lessV (made fun k => if k = j then n else f k) (made f) = false := by
        refine (less_madeN hf2 9 (Nat.le_refl 9)).trans (List.any_eq_false.mpr fun k _ => ?_)
        rw [decide_eq_false]
        · exact Bool.false_ne_true
        · dsimp only
          split
          · rename_i e
            rw [e]
            omega
          · omega
      clear s5e s5f af pf p4 s14 hra
      walk_at "go"
      refine ⟨_, _, _, rfl, r1, f, j, n, rfl, congrArg V.int (by omega), rfl, j9, hn.1, hf, pz, fun x1 Hg sg pg => ?_⟩
      walk_at "go"
      refine ⟨_, rfl, ra, _, rfl, SqL.of (sg _ _ az), fun x2 Hh sh ph => ?_⟩
      walk_at "go"
      refine e_neVV (pg.same sh).vec ph ?_
      walk_at "go"
      refine i_neself ?_
      have pzz := pz.same (sg.trans sh)
      walk_at "go"
      refine ⟨_, _, _, rfl, r1, f, j, n, rfl, congrArg V.int (by omega), rfl, j9, hn.1, hf, pzz, fun x3 Hi si pi => ?_⟩
      walk_at "go"
      refine ⟨_, _, rfl, r1, x3, made f, _, rfl, rfl, (pzz.same si).vec, pi.vec, ?_⟩
      rw [l1, l2, show cmpS true false = ("less" : Str) from rfl]
      walk_at "go"
      refine i_neself ?_
      walk_at "go"
      exact ⟨⟨_, _, _, _, _, _, _, _, _, rfl⟩, sz.trans ((sg.trans sh).trans si)⟩
    · obtain ⟨_, _⟩ := q
      walk_at "go"
      exact k _
end
set_option maxHeartbeats 0
def d_count_of : He.DefD := ⟨("count_of", none), "count_of", "count_of", defArgs s_count_of, defBody s_count_of, defScope s_count_of, [], []⟩
def d_compare : He.DefD := ⟨("compare", none), "compare", "compare", defArgs s_compare, defBody s_compare, defScope s_compare, [], []⟩
def d_is_less_somewhere : He.DefD := ⟨("_is_less_somewhere", none), "_is_less_somewhere", "_is_less_somewhere", defArgs s_is_less_somewhere, defBody s_is_less_somewhere, defScope s_is_less_somewhere, [], []⟩
def d_join : He.DefD := ⟨("join", none), "join", "join", defArgs s_join, defBody s_join, defScope s_join, [], []⟩
def d_raised : He.DefD := ⟨("raised", none), "raised", "raised", defArgs s_raised, defBody s_raised, defScope s_raised, [], []⟩
def d_vector : He.DefD := ⟨("_vector", none), "_vector", "_vector", defArgs s_vector, defBody s_vector, defScope s_vector, [], []⟩
def d_counts_of : He.DefD := ⟨("counts_of", none), "counts_of", "counts_of", defArgs s_counts_of, defBody s_counts_of, defScope s_counts_of, [], []⟩
def d_law_cell : He.DefD := ⟨("_law_cell", none), "_law_cell", "_law_cell", defArgs s_law_cell, defBody s_law_cell, defScope s_law_cell, [], []⟩
def d_law_vector : He.DefD := ⟨("_law_vector", none), "_law_vector", "_law_vector", defArgs s_law_vector, defBody s_law_vector, defScope s_law_vector, [], []⟩
def d_law_counts : He.DefD := ⟨("_law_counts", none), "_law_counts", "_law_counts", defArgs s_law_counts, defBody s_law_counts, defScope s_law_counts, [], []⟩
def d_law_due : He.DefD := ⟨("_law_due", none), "_law_due", "_law_due", defArgs s_law_due, defBody s_law_due, defScope s_law_due, [], []⟩
def d_law_made : He.DefD := ⟨("_law_made", none), "_law_made", "_law_made", defArgs s_law_made, defBody s_law_made, defScope s_law_made, [], []⟩
def d_law : He.DefD := ⟨("law", none), "law", "law", defArgs s_law, defBody s_law, defScope s_law, [], []⟩
def fn : List He.DefD := [d_count_of, d_compare, d_is_less_somewhere, d_join, d_raised, d_vector, d_counts_of, d_law_cell, d_law_vector, d_law_counts, d_law_due, d_law_made, d_law]
def fa : List He.Fa := [.glo "count_of", .glo "compare", .glo "_is_less_somewhere", .glo "join", .glo "raised", .glo "_vector", .glo "counts_of", .glo "_law_cell", .glo "_law_vector", .glo "_law_counts", .glo "_law_due", .glo "_law_made", .glo "law", .free "dict", .free "int", .free "len", .free "max", .free "range", .free "sorted", .free "tuple"]
abbrev R : PySem.W.OpenRow := PySem.W.OpenLaw.row PySem.Challenge.rw_folderkin_k01_vectors
abbrev hk : PySem.W.Hook := He.hookD 4 fa fn
def ob (s : PySem.W.SharedT) : He.AlD := He.obsDG 4 fa fn (HandSHeadRun.getT s)
theorem ob_eq (s : PySem.W.SharedT) : ob s = hk.obs s.abs := He.obsDG_eq (HandSHeadRun.getT_eq s)
theorem run (w : World) : HandSHeadRun.RunEq R (PySem.W.view R.prog [14]) hk ob 8000 ["count_of", "compare", "_is_less_somewhere", "join", "raised", "_vector", "counts_of", "_law_cell", "_law_vector", "_law_counts", "_law_due", "_law_made"] w := by
  intro os
  kernel_rfl
theorem facts {P : Program} {w : World} {K : PySem.W.Frag} {h : Heap} {mg : Str → Option Value} {f : Addr} (X : K.In h) (G : h.Ns mainGlobals mg) (hfa : mg ("law" : Str) = some (.ref f)) (c : He.SaysD fa fn K) :
    ∃ fd : FuncData, (∀ (s : Shared) (v : Value), BindsTo s fd ⟨[v], []⟩ [("script", v)]) ∧ ∀ base : Heap, K.In base → base.Ns mainGlobals mg → FnOk P w K mg base CX0 4 f fd ["script"] (sp_law K) := by
  have T : Txt K mg := ⟨He.free_ok X G (c.fact 13 (f := .free "dict") rfl), He.free_ok X G (c.fact 14 (f := .free "int") rfl), He.free_ok X G (c.fact 15 (f := .free "len") rfl), He.free_ok X G (c.fact 16 (f := .free "max") rfl), He.free_ok X G (c.fact 17 (f := .free "range") rfl), He.free_ok X G (c.fact 18 (f := .free "sorted") rfl), He.free_ok X G (c.fact 19 (f := .free "tuple") rfl)⟩
  obtain ⟨fd_count_of, F_count_of⟩ := c.def_ 0 (d := d_count_of) rfl
  have c_count_of : ∀ base : Heap, Cal P w K mg base 1 "count_of" (sp_count_of K) := fun base => ⟨_, _, ["vector", "device"], ok_count_of T  F_count_of, He.glo_ok X G (c.fact 0 (f := .glo "count_of") rfl), F_count_of.kp, FunD.bindsN F_count_of fun _ _ _ _ _ _ us hl => match us, hl with | [_, _], _ => rfl⟩
  obtain ⟨fd_vector, F_vector⟩ := c.def_ 5 (d := d_vector) rfl
  have c_vector : ∀ base : Heap, Cal P w K mg base 1 "_vector" (sp_vector K) := fun base => ⟨_, _, ["counts"], ok_vector T  F_vector, He.glo_ok X G (c.fact 5 (f := .glo "_vector") rfl), F_vector.kp, FunD.bindsN F_vector fun _ _ _ _ _ _ us hl => match us, hl with | [_], _ => rfl⟩
  obtain ⟨fd_law_cell, F_law_cell⟩ := c.def_ 7 (d := d_law_cell) rfl
  have c_law_cell : ∀ base : Heap, Cal P w K mg base 1 "_law_cell" (sp_law_cell K) := fun base => ⟨_, _, ["script", "k"], ok_law_cell T  F_law_cell, He.glo_ok X G (c.fact 7 (f := .glo "_law_cell") rfl), F_law_cell.kp, FunD.bindsN F_law_cell fun _ _ _ _ _ _ us hl => match us, hl with | [_, _], _ => rfl⟩
  obtain ⟨fd_law_vector, F_law_vector⟩ := c.def_ 8 (d := d_law_vector) rfl
  have c_law_vector : ∀ base : Heap, Cal P w K mg base 1 "_law_vector" (sp_law_vector K) := fun base => ⟨_, _, ["cell", "most"], ok_law_vector T  F_law_vector, He.glo_ok X G (c.fact 8 (f := .glo "_law_vector") rfl), F_law_vector.kp, FunD.bindsN F_law_vector fun _ _ _ _ _ _ us hl => match us, hl with | [_, _], _ => rfl⟩
  obtain ⟨fd_law_counts, F_law_counts⟩ := c.def_ 9 (d := d_law_counts) rfl
  have c_law_counts : ∀ base : Heap, Cal P w K mg base 1 "_law_counts" (sp_law_counts K) := fun base => ⟨_, _, ["vector"], ok_law_counts T  F_law_counts, He.glo_ok X G (c.fact 9 (f := .glo "_law_counts") rfl), F_law_counts.kp, FunD.bindsN F_law_counts fun _ _ _ _ _ _ us hl => match us, hl with | [_], _ => rfl⟩
  obtain ⟨fd_law_due, F_law_due⟩ := c.def_ 10 (d := d_law_due) rfl
  have c_law_due : ∀ base : Heap, Cal P w K mg base 1 "_law_due" (sp_law_due K) := fun base => ⟨_, _, ["first", "second"], ok_law_due T  F_law_due, He.glo_ok X G (c.fact 10 (f := .glo "_law_due") rfl), F_law_due.kp, FunD.bindsN F_law_due fun _ _ _ _ _ _ us hl => match us, hl with | [_, _], _ => rfl⟩
  obtain ⟨fd_law_made, F_law_made⟩ := c.def_ 11 (d := d_law_made) rfl
  have c_law_made : ∀ base : Heap, Cal P w K mg base 1 "_law_made" (sp_law_made K) := fun base => ⟨_, _, ["counts"], ok_law_made T  F_law_made, He.glo_ok X G (c.fact 11 (f := .glo "_law_made") rfl), F_law_made.kp, FunD.bindsN F_law_made fun _ _ _ _ _ _ us hl => match us, hl with | [_], _ => rfl⟩
  obtain ⟨fd_is_less_somewhere, F_is_less_somewhere⟩ := c.def_ 2 (d := d_is_less_somewhere) rfl
  have c_is_less_somewhere : ∀ base : Heap, Cal P w K mg base 2 "_is_less_somewhere" (sp_is_less_somewhere K) := fun base => ⟨_, _, ["first", "second"], ok_is_less_somewhere T (c_count_of base) F_is_less_somewhere, He.glo_ok X G (c.fact 2 (f := .glo "_is_less_somewhere") rfl), F_is_less_somewhere.kp, FunD.bindsN F_is_less_somewhere fun _ _ _ _ _ _ us hl => match us, hl with | [_, _], _ => rfl⟩
  obtain ⟨fd_join, F_join⟩ := c.def_ 3 (d := d_join) rfl
  have c_join : ∀ base : Heap, Cal P w K mg base 2 "join" (sp_join K) := fun base => ⟨_, _, ["first", "second"], ok_join T (c_vector base) F_join, He.glo_ok X G (c.fact 3 (f := .glo "join") rfl), F_join.kp, FunD.bindsN F_join fun _ _ _ _ _ _ us hl => match us, hl with | [_, _], _ => rfl⟩
  obtain ⟨fd_raised, F_raised⟩ := c.def_ 4 (d := d_raised) rfl
  have c_raised : ∀ base : Heap, Cal P w K mg base 2 "raised" (sp_raised K) := fun base => ⟨_, _, ["vector", "device", "number"], ok_raised T (c_vector base) F_raised, He.glo_ok X G (c.fact 4 (f := .glo "raised") rfl), F_raised.kp, FunD.bindsN F_raised fun _ _ _ _ _ _ us hl => match us, hl with | [_, _, _], _ => rfl⟩
  obtain ⟨fd_counts_of, F_counts_of⟩ := c.def_ 6 (d := d_counts_of) rfl
  have c_counts_of : ∀ base : Heap, Cal P w K mg base 2 "counts_of" (sp_counts_of K) := fun base => ⟨_, _, ["vector"], ok_counts_of T (c_count_of base) F_counts_of, He.glo_ok X G (c.fact 6 (f := .glo "counts_of") rfl), F_counts_of.kp, FunD.bindsN F_counts_of fun _ _ _ _ _ _ us hl => match us, hl with | [_], _ => rfl⟩
  obtain ⟨fd_compare, F_compare⟩ := c.def_ 1 (d := d_compare) rfl
  have c_compare : ∀ base : Heap, Cal P w K mg base 3 "compare" (sp_compare K) := fun base => ⟨_, _, ["first", "second"], ok_compare T (c_is_less_somewhere base) F_compare, He.glo_ok X G (c.fact 1 (f := .glo "compare") rfl), F_compare.kp, FunD.bindsN F_compare fun _ _ _ _ _ _ us hl => match us, hl with | [_, _], _ => rfl⟩
  obtain ⟨fd_law, F_law⟩ := c.def_ 12 (d := d_law) rfl
  have e := hfa.symm.trans (He.glo_ok X G (c.fact 12 (f := .glo "law") rfl))
  cases e
  have b := FunD.bindsA (ps := ["script"]) F_law fun _ _ _ _ _ _ us hl => match us, hl with | [_], _ => rfl
  exact ⟨fd_law, fun s v => b s [v] rfl, fun base _ _ => ok_law T (c_law_vector base) (c_law_cell base) (c_law_counts base) (c_count_of base) (c_counts_of base) (c_compare base) (c_law_due base) (c_join base) (c_law_made base) (c_raised base) F_law⟩
end Vk01
set_option maxHeartbeats 0
open PySem PySem.W PySem.Calls PyProof.Rows
theorem PySem.Challenge.cw_folderkin_k01_vectors_holds : PySem.Challenge.rw_folderkin_k01_vectors.Holds := by
  w_on; o_law
  refine HandSHeadRun.head_any (r := OpenLaw.row PySem.Challenge.rw_folderkin_k01_vectors) (q := view (OpenLaw.row PySem.Challenge.rw_folderkin_k01_vectors).prog [14]) (H := Vk01.hk) (ob := Vk01.ob) (M := 8000) (loose := ["count_of", "compare", "_is_less_somewhere", "join", "raised", "_vector", "counts_of", "_law_cell", "_law_vector", "_law_counts", "_law_due", "_law_made"]) (d := HandSHeadRun.topDef (OpenLaw.row PySem.Challenge.rw_folderkin_k01_vectors).prog 14) (kwd := []) Vk01.ob_eq
    (by kernel_rfl) (fun s => by kernel_rfl) Vk01.run (by kernel_rfl) (by kernel_rfl) (by kernel_rfl) (by rfl) (by first | assumption | decide +kernel) (by decide +kernel) ⟨rfl, rfl, rfl, rfl, rfl, by decide +kernel⟩ ?hw ?hc
  case hw => w_witness2
  case hc =>
    refine L2.walk_ofE (l := PySem.Challenge.rw_folderkin_k01_vectors) (n := 63) (k := 4) (x := "script") (CX := L2.CX0) rfl (by decide) (by kernel_rfl) ⟨rfl, by decide, by decide⟩ ?F (fun _ _ _ _ z => z)
    intro w mg fa h Y G hmg0
    obtain ⟨K, KX, c⟩ := Y
    have hmg : mg ("law" : PySem.Str) = some (.ref fa) := by
      have e : (HandSHeadRun.topDef (OpenLaw.row PySem.Challenge.rw_folderkin_k01_vectors).prog 14).name = ("law" : PySem.Str) := by kernel_rfl
      rw [← e]
      exact hmg0
    obtain ⟨fd, hb, hF⟩ := Vk01.facts (P := (PySem.Challenge.rw_folderkin_k01_vectors).prog) (w := w) KX G hmg c
    exact ⟨K, fd, Vk01.sp_law K, KX, hb, fun H a ns hl _ hS => ⟨_, rfl, a, ns, rfl, hS, hl, fun _ => rfl⟩, hF⟩
