import PyProof.Rows.All
import Wide.All
import OpenK.AllK
import Wide.FinOn
import KE.KStateDown
import HandS.ForMost
import HandS.Codes
import HandS.Defaults
import HandS.Flow
import HandS.Walk
import HandS.Wide
import HandS.IsInst
import HandS.Iter
import KE.GoesMore
import KE.GoesEnum
import KE.LtData
import KE.DataCmp
import HandS.WideBits
import HandS.RevRange
import HandS.TupLe
import HandS.TupAny
import HandS.Style
import HandS.Dict
import HandS.More
import KE.KDictPairs
import KE.OsGo
import HandS.ForSpec
import HandS.ExcIs
import KE.KExcIs
import HandS.Head0
import HandS.Head1
import HandS.Head2
import HandS.HeadEnd
import HandS.HeadHook1
import HandS.HeadHook2
import Lean
import PySem.Challenge.RW_folderkin_k36_any_integers_as_blocks
set_option Elab.async false
set_option linter.all false
set_option maxRecDepth 100000
set_option maxHeartbeats 4000000
namespace Vf
open PySem L2 PySem.Spec PyProof.Rows

/-- what is left of a loop, of a comprehension, behind what it walks -/
def ForB (J : It) (g : TG) (t : TS) (D : Ends) (σ : L2.St) (H1 : Hp) : Prop := ∃ W : Nat → Nat → L2.St → Hp → Prop, (∃ m, W 0 m σ H1) ∧ ∀ i m σ H, W i m σ H →
  (J.stop i H ∧ D.nx σ H) ∨ (J.go i H ∧ ∃ N : L2.St → Hp → Prop, (∀ σ' H', N σ' H' → ∃ m', m' < m ∧ W (i + 1) m' σ' H') ∧ ∀ x H', J.yld i H x H' → g x σ H' fun σ2 H2 => t { D with nx := N, ct := N, bk := D.nx } σ2 H2)
def LcB (J : It) (g : TG) (tt : TT) (te : TE) (vs : List Nat) (σ : L2.St) (D : Addr) (H1 : Hp) (Q : VK) : Prop := ∃ W : Nat → Nat → Hp → Prop, (∃ m, W 0 m (upd H1 D (.lst []))) ∧ ∀ i m H, W i m H →
  (J.stop i H ∧ Q (.ref D) H) ∨ (J.go i H ∧
    ∃ Nx : Hp → Prop, (∀ H', Nx H' → ∃ m', m' < m ∧ W (i + 1) m' H') ∧
    ∀ x H', J.yld i H x H' → g x (wipe σ vs) H' fun σ2 H2 => wipe σ2 vs = wipe σ vs ∧ tt σ2 H2 fun b H3 =>
    if b = true then te σ2 H3 fun y H4 => 
      ∃ acc, H4 D = some (.lst acc) ∧ acc.length < sizeLine ∧
      Nx (upd H4 D (.lst (acc ++ [y]))) else Nx H3)
section
variable {K : PySem.W.Frag} {g : TG} {t : TS} {D : Ends} {σ : L2.St} {H : Hp} {tt : TT} {te : TE} {vs : List Nat} {Q : VK} {Da : Addr}
/-- for c in z, a text: Pv by the signs gone -/
theorem for_str {z : Str} (Pv : List Nat → L2.St → Hp → Prop) (h0 : Pv [] σ H)
    (hs : ∀ (pre : List Nat) (c : Nat) (post : List Nat) σ H, z.cps.toList = pre ++ c :: post → Pv pre σ H → g (.str ⟨#[c]⟩) σ H fun σ2 H2 => t { D with nx := Pv (pre ++ [c]), ct := Pv (pre ++ [c]), bk := D.nx } σ2 H2)
    (hd : ∀ σ H, Pv z.cps.toList σ H → D.nx σ H) : ForB (Its z) g t D σ H := by
  refine for_it walk_str (fun i => Pv (z.cps.toList.take i)) (by simpa using h0) (fun _ _ _ _ _ => trivial) (fun i x σ H H' hi p y => ?_) (fun σ H p => ?_)
  · obtain ⟨e, c, hc, hx⟩ := y
    subst e hx
    have hc' : z.cps.toList[i]? = some c := by simpa using hc
    have hi' : i < z.cps.toList.length := by simpa using hi
    have e1 : z.cps.toList = z.cps.toList.take i ++ c :: z.cps.toList.drop (i + 1) := by
      have e2 := (List.getElem?_eq_some_iff.mp hc').2
      rw [← e2, List.getElem_cons_drop, List.take_append_drop]
    have e3 : z.cps.toList.take (i + 1) = z.cps.toList.take i ++ [c] := by
      rw [List.take_add_one, hc']; rfl
    rw [e3]
    exact hs _ c _ σ _ e1 p
  · refine hd σ H ?_
    have e : z.cps.toList.take z.cps.size = z.cps.toList := List.take_of_length_le (by simp)
    rw [← e]
    exact p
theorem lc_str {z : Str} (Pv : List Nat → Hp → Prop) (h0 : Pv [] (upd H Da (.lst [])))
    (hs : ∀ (pre : List Nat) (c : Nat) (post : List Nat) H, z.cps.toList = pre ++ c :: post → Pv pre H → g (.str ⟨#[c]⟩) (wipe σ vs) H fun σ2 H2 => wipe σ2 vs = wipe σ vs ∧ tt σ2 H2 fun b H3 =>
      if b = true then te σ2 H3 fun y H4 => ∃ acc, H4 Da = some (.lst acc) ∧ acc.length < sizeLine ∧ Pv (pre ++ [c]) (upd H4 Da (.lst (acc ++ [y]))) else Pv (pre ++ [c]) H3)
    (hd : ∀ H, Pv z.cps.toList H → Q (.ref Da) H) : LcB (Its z) g tt te vs σ Da H Q := by
  refine lc_it walk_str (fun i => Pv (z.cps.toList.take i)) (by simpa using h0) (fun _ _ _ _ => trivial) (fun i x H H' hi p y => ?_) (fun H p => ?_)
  · obtain ⟨e, c, hc, hx⟩ := y
    subst e hx
    have hc' : z.cps.toList[i]? = some c := by simpa using hc
    have e1 : z.cps.toList = z.cps.toList.take i ++ c :: z.cps.toList.drop (i + 1) := by
      have e2 := (List.getElem?_eq_some_iff.mp hc').2
      rw [← e2, List.getElem_cons_drop, List.take_append_drop]
    have e3 : z.cps.toList.take (i + 1) = z.cps.toList.take i ++ [c] := by
      rw [List.take_add_one, hc']; rfl
    rw [e3]
    exact hs _ c _ _ e1 p
  · refine hd H ?_
    have e : z.cps.toList.take z.cps.size = z.cps.toList := List.take_of_length_le (by simp)
    rw [← e]
    exact p
theorem for_rng {lo : Int} {n : Nat} (Pv : Nat → L2.St → Hp → Prop) (h0 : Pv 0 σ H)
    (hs : ∀ i σ H, i < n → Pv i σ H → g (.int (lo + i)) σ H fun σ2 H2 => t { D with nx := Pv (i + 1), ct := Pv (i + 1), bk := D.nx } σ2 H2) (hd : ∀ σ H, Pv n σ H → D.nx σ H) : ForB (Itr lo n) g t D σ H := for_range Pv h0 hs hd
theorem lc_rng {lo : Int} {n : Nat} (Pv : Nat → Hp → Prop) (h0 : Pv 0 (upd H Da (.lst [])))
    (hs : ∀ i H, i < n → Pv i H → g (.int (lo + i)) (wipe σ vs) H 
      fun σ2 H2 => wipe σ2 vs = wipe σ vs ∧ tt σ2 H2 fun b H3 =>
      if b = true then te σ2 H3 fun y H4 => ∃ acc, H4 Da = some (.lst acc) ∧ acc.length < sizeLine ∧ Pv (i + 1) (upd H4 Da (.lst (acc ++ [y]))) else Pv (i + 1) H3) (hd : ∀ H, Pv n H → Q (.ref Da) H) :
    LcB (Itr lo n) g tt te vs σ Da H Q := lc_range Pv h0 hs hd
/-- for x in xs, a list: Pv by what was taken -/
theorem for_lst {a : Addr} {xs : List V} (Pv : List V → L2.St → Hp → Prop) (h0 : Pv [] σ H) (hl : ∀ pre σ H, Pv pre σ H → SqL K H a xs)
    (hs : ∀ (pre : List V) (x : V) (post : List V) σ H, xs = pre ++ x :: post → Pv pre σ H → g x σ H fun σ2 H2 => t { D with nx := Pv (pre ++ [x]), ct := Pv (pre ++ [x]), bk := D.nx } σ2 H2)
    (hd : ∀ σ H, Pv xs σ H → D.nx σ H) : ForB (Itl K a) g t D σ H := by
  refine for_list (xs := xs) (fun i => Pv (xs.take i)) (by simpa using h0) (fun i σ H _ p => hl _ σ H p) (fun i x σ H hx p => ?_) (fun σ H p => ?_)
  · have e1 : xs = xs.take i ++ x :: xs.drop (i + 1) := by
      have e2 := (List.getElem?_eq_some_iff.mp hx).2
      rw [← e2, List.getElem_cons_drop, List.take_append_drop]
    have e3 : xs.take (i + 1) = xs.take i ++ [x] := by
      rw [List.take_add_one, hx]; rfl
    rw [e3]
    exact hs _ x _ σ H e1 p
  · rw [List.take_length] at p
    exact hd σ H p
theorem lc_lst {a : Addr} {xs : List V} (Pv : List V → Hp → Prop) (h0 : Pv [] (upd H Da (.lst []))) (hl : ∀ pre H, Pv pre H → SqL K H a xs)
    (hs : ∀ (pre : List V) (x : V) (post : List V) H, xs = pre ++ x :: post → Pv pre H → g x (wipe σ vs) H fun σ2 H2 => wipe σ2 vs = wipe σ vs ∧ tt σ2 H2 fun b H3 =>
      if b = true then te σ2 H3 fun y H4 => ∃ acc, H4 Da = some (.lst acc) ∧ acc.length < sizeLine ∧ Pv (pre ++ [x]) (upd H4 Da (.lst (acc ++ [y]))) else Pv (pre ++ [x]) H3)
    (hd : ∀ H, Pv xs H → Q (.ref Da) H) : LcB (Itl K a) g tt te vs σ Da H Q := by
  refine lc_list (xs := xs) (fun i => Pv (xs.take i)) (by simpa using h0) (fun i H _ p => hl _ H p) (fun i x H hx p => ?_) (fun H p => ?_)
  · have e1 : xs = xs.take i ++ x :: xs.drop (i + 1) := by
      have e2 := (List.getElem?_eq_some_iff.mp hx).2
      rw [← e2, List.getElem_cons_drop, List.take_append_drop]
    have e3 : xs.take (i + 1) = xs.take i ++ [x] := by
      rw [List.take_add_one, hx]; rfl
    rw [e3]
    exact hs _ x _ H e1 p
  · rw [List.take_length] at p
    exact hd H p
theorem for_tpl {a : Addr} {xs : List V} (Pv : List V → L2.St → Hp → Prop) (h0 : Pv [] σ H) (hl : ∀ pre σ H, Pv pre σ H → SqT K H a xs)
    (hs : ∀ (pre : List V) (x : V) (post : List V) σ H, xs = pre ++ x :: post → Pv pre σ H → g x σ H fun σ2 H2 => t { D with nx := Pv (pre ++ [x]), ct := Pv (pre ++ [x]), bk := D.nx } σ2 H2)
    (hd : ∀ σ H, Pv xs σ H → D.nx σ H) : ForB (Itt K a) g t D σ H := by
  refine for_tup (xs := xs) (fun i => Pv (xs.take i)) (by simpa using h0) (fun i σ H _ p => hl _ σ H p) (fun i x σ H hx p => ?_) (fun σ H p => ?_)
  · have e1 : xs = xs.take i ++ x :: xs.drop (i + 1) := by
      have e2 := (List.getElem?_eq_some_iff.mp hx).2
      rw [← e2, List.getElem_cons_drop, List.take_append_drop]
    have e3 : xs.take (i + 1) = xs.take i ++ [x] := by
      rw [List.take_add_one, hx]; rfl
    rw [e3]
    exact hs _ x _ σ H e1 p
  · rw [List.take_length] at p
    exact hd σ H p
end

/-! ### readings, one lemma a head -/
section
variable {σ : L2.St} {H : Hp} {Q : VK} {D : Ends} {te ta tb tx : TE} {tt tu : TT} {t u : TS} {as : TA} {r r' : R2} {x y v : V} {K : PySem.W.Frag}
theorem e_var {i : Nat} (h : σ[i]? = some (some v)) (q : Q v H) : tVar i σ H Q := ⟨v, h, q⟩
theorem e_c (q : Q v H) : tC v σ H Q := q
theorem e_op (q : ta σ H fun x H1 => tb σ H1 fun y H2 => r x y H2 Q) : tOp r ta tb σ H Q := q
theorem e_un {r : V → Hp → VK → Prop} (q : ta σ H fun x H1 => r x H1 Q) : tUn r ta σ H Q := q
theorem e_I0 {g : Int → Int → V} {i j : Int} (q : Q (g i j) H) : rI0 g (.int i) (.int j) H Q := ⟨i, j, rfl, rfl, q⟩
theorem e_I {C : Int → Int → Prop} {g : Int → Int → V} {i j : Int} (c : C i j) (q : Q (g i j) H) : rI C g (.int i) (.int j) H Q := ⟨i, j, rfl, rfl, c, q⟩
theorem e_U {g : Int → V} {i : Int} (q : Q (g i) H) : rU g (.int i) H Q := ⟨i, rfl, q⟩
theorem e_eq (s : scal x y = true) (q : Q (.bl (decide (x = y))) H) : rEq x y H Q := ⟨s, q⟩
theorem e_ne (s : scal x y = true) (q : Q (.bl (!decide (x = y))) H) : rNe x y H Q := ⟨s, q⟩
theorem e_eqI {i j : Int} (q : Q (.bl (decide (i = j))) H) : rEq (.int i) (.int j) H Q := ⟨rfl, by
  have e : decide (V.int i = V.int j) = decide (i = j) := by
    by_cases h : i = j
    · rw [h]; simp
    · rw [decide_eq_false h, decide_eq_false (fun z => h (V.int.inj z))]
  rw [e]; exact q⟩
theorem e_neI {i j : Int} (q : Q (.bl (!decide (i = j))) H) : rNe (.int i) (.int j) H Q := ⟨rfl, by
  have e : decide (V.int i = V.int j) = decide (i = j) := by
    by_cases h : i = j
    · rw [h]; simp
    · rw [decide_eq_false h, decide_eq_false (fun z => h (V.int.inj z))]
  rw [e]; exact q⟩
theorem e_eqS {i j : Str} (q : Q (.bl (decide (i = j))) H) : rEq (.str i) (.str j) H Q := ⟨rfl, by
  have e : decide (V.str i = V.str j) = decide (i = j) := by
    by_cases h : i = j
    · rw [h]; simp
    · rw [decide_eq_false h, decide_eq_false (fun z => h (V.str.inj z))]
  rw [e]; exact q⟩
theorem e_neS {i j : Str} (q : Q (.bl (!decide (i = j))) H) : rNe (.str i) (.str j) H Q := ⟨rfl, by
  have e : decide (V.str i = V.str j) = decide (i = j) := by
    by_cases h : i = j
    · rw [h]; simp
    · rw [decide_eq_false h, decide_eq_false (fun z => h (V.str.inj z))]
  rw [e]; exact q⟩
theorem e_eqB {i j : Bool} (q : Q (.bl (i == j)) H) : rEq (.bl i) (.bl j) H Q := ⟨rfl, by
  have e : decide (V.bl i = V.bl j) = (i == j) := by cases i <;> cases j <;> rfl
  rw [e]; exact q⟩
theorem e_neB {i j : Bool} (q : Q (.bl (i != j)) H) : rNe (.bl i) (.bl j) H Q := ⟨rfl, by
  have e : (!decide (V.bl i = V.bl j)) = (i != j) := by cases i <;> cases j <;> rfl
  rw [e]; exact q⟩
theorem e_test {Q : Bool → Hp → Prop} (q : te σ H fun x H' => ∃ k, x = .bl k ∧ Q k H') : tTest te σ H Q := q
theorem e_B {Q : Bool → Hp → Prop} (q : te σ H fun x H' => ∃ k, x = .bl k ∧ Q k H') : tB te σ H Q := q
theorem e_ex {b : Bool} {P : Bool → Prop} (q : P b) : ∃ k, V.bl b = .bl k ∧ P k := ⟨b, rfl, q⟩
theorem e_and {Q : Bool → Hp → Prop} (q : tt σ H fun c H1 => if c = true then tu σ H1 Q else Q false H1) : tAnd tt tu σ H Q := q
theorem e_or {Q : Bool → Hp → Prop} (q : tt σ H fun c H1 => if c = true then Q true H1 else tu σ H1 Q) : tOr tt tu σ H Q := q
theorem e_not {Q : Bool → Hp → Prop} (q : tt σ H fun c H1 => Q (!c) H1) : tNot tt σ H Q := q
theorem e_yes {Q : Bool → Hp → Prop} (q : Q true H) : tYes σ H Q := q
theorem e_andV (q : ta σ H fun x H1 => ∃ c, x = .bl c ∧ if c = true then tb σ H1 Q else Q (.bl false) H1) : tAndV ta tb σ H Q := q
theorem e_orV (q : ta σ H fun x H1 => ∃ c, x = .bl c ∧ if c = true then Q (.bl true) H1 else tb σ H1 Q) : tOrV ta tb σ H Q := q
theorem e_notV (q : ta σ H fun x H1 => ∃ c, x = .bl c ∧ Q (.bl (!c)) H1) : tNotV ta σ H Q := q
theorem e_if (q : tt σ H fun c H1 => if c = true then ta σ H1 Q else tb σ H1 Q) : tIf tt ta tb σ H Q := q
theorem e_chain (q : ta σ H fun x H1 => tb σ H1 fun y H2 => r x y H2 fun z H3 => ∃ k, z = .bl k ∧ (if k = true then tx σ H3 fun w' H4 => r' y w' H4 Q else Q (.bl false) H3)) : tChain r r' ta tb tx σ H Q := q
theorem e_seq (q : t { D with nx := u D } σ H) : tSeq t u D σ H := q
theorem e_next (q : D.nx σ H) : tNext D σ H := q
theorem e_break (q : D.bk σ H) : tBreak D σ H := q
theorem e_cont (q : D.ct σ H) : tCont D σ H := q
theorem e_drop (q : te σ H fun _ H1 => D.nx σ H1) : tDrop te D σ H := q
theorem e_ret (q : te σ H D.rt) : tRet te D σ H := q
theorem e_retN (q : D.rt .non H) : tRetN D σ H := q
theorem e_ifS (q : tt σ H fun b H1 => if b = true then t D σ H1 else u D σ H1) : tIfS tt t u D σ H := q
theorem e_asg {g : TG} (q : te σ H fun x H1 => g x σ H1 D.nx) : tAsg te g D σ H := q
theorem e_name {i : Nat} {Q : L2.St → Hp → Prop} (q : Q (σ.set i (some v)) H) : gName i v σ H Q := q
theorem e_sub {to ti : TE} {st : TSet} {Q : L2.St → Hp → Prop} (q : to σ H fun o H1 => ti σ H1 fun i H2 => st o i v H2 fun H3 => Q σ H3) : gSub to ti st v σ H Q := q
theorem e_aug {i : Nat} {ti : TIp} (h : σ[i]? = some (some x)) (q : te σ H fun y H1 => ti x y H1 fun z H2 => D.nx (σ.set i (some z)) H2) : tAug i te ti D σ H := ⟨x, h, q⟩
theorem e_nil {Q : List V → Hp → Prop} (q : Q [] H) : tNil σ H Q := q
theorem e_cons {Q : List V → Hp → Prop} (q : ta σ H fun x H1 => as σ H1 fun xs H2 => Q (x :: xs) H2) : tCons ta as σ H Q := q
theorem e_call {sp : Sp} {dvs : List V} {E : XK} (q : as σ H fun vs H1 => sp (vs ++ dvs) H1 Q E) : tCall sp dvs E as σ H Q := q
theorem e_CB {r : List V → Hp → VK → Prop} (q : as σ H fun vs H1 => r vs H1 Q) : tCB r as σ H Q := q
theorem e_tup (q : as σ H fun xs H1 => xs.length ≤ sizeLine ∧ ∀ p, H1 p = none → Q (.ref p) (upd H1 p (.tup xs))) : tTup as σ H Q := q
theorem e_lst (q : as σ H fun xs H1 => xs.length ≤ sizeLine ∧ ∀ p, H1 p = none → Q (.ref p) (upd H1 p (.lst xs))) : tLst as σ H Q := q
theorem e_sl {r : V → Option Int → Option Int → Hp → VK → Prop} {tl th : TO} (q : te σ H fun x H1 => tl σ H1 fun l H2 => th σ H2 fun u H3 => r x l u H3 Q) : tSl r te tl th σ H Q := q
theorem e_noP {Q : Option Int → Hp → Prop} (q : Q none H) : tNoPart σ H Q := q
theorem e_part {Q : Option Int → Hp → Prop} (q : te σ H fun x H1 => ∃ i, x = .int i ∧ Q (some i) H1) : tPart te σ H Q := q
theorem e_exI {i : Int} {P : Int → Prop} (q : P i) : ∃ k, V.int i = .int k ∧ P k := ⟨i, rfl, q⟩
theorem e_bm {T : String} {r : V → List V → Hp → VK → Prop} {to : TE} (q : to σ H fun x H1 => tyV K T x H1 ∧ as σ H1 fun xs H2 => r x xs H2 Q) : tBM K T r to as σ H Q := q
theorem e_for {wi : TI} {g : TG} (q : wi σ H fun J H1 => ForB J g t D σ H1) : tFor wi g t D σ H := q
theorem e_lc {wi : TI} {g : TG} {vs : List Nat} (q : wi σ H fun J H1 => ∀ D, H1 D = none → LcB J g tt te vs σ D H1 Q) : tLc wi g tt te vs σ H Q := q
theorem e_exS {i : Str} {P : Str → Prop} (q : P i) : ∃ k, V.str i = .str k ∧ P k := ⟨i, rfl, q⟩
theorem e_exR {a : Addr} {xs : List V} {P : Addr → Prop} (h : SqL K H a xs) (q : P a) : ∃ k, V.ref a = .ref k ∧ (∃ xs, SqL K H k xs) ∧ P k := ⟨a, rfl, ⟨xs, h⟩, q⟩
theorem e_exRT {a : Addr} {xs : List V} {P : Addr → Prop} (h : SqT K H a xs) (q : P a) : ∃ k, V.ref a = .ref k ∧ (∃ xs, SqT K H k xs) ∧ P k := ⟨a, rfl, ⟨xs, h⟩, q⟩
theorem e_rng1 {n : Int} {P : Int → Prop} (h1 : -(2 ^ 62) ≤ n) (h2 : n < 2 ^ 62) (q : P n) : ∃ j : Int, [V.int n] = [.int j] ∧ -(2 ^ 62) ≤ j ∧ j < 2 ^ 62 ∧ P j := ⟨n, rfl, h1, h2, q⟩
theorem e_rng2 {m n : Int} {P : Int → Int → Prop} (h : -(2 ^ 62) ≤ m ∧ m < 2 ^ 62 ∧ -(2 ^ 62) ≤ n ∧ n < 2 ^ 62) (q : P m n) : ∃ i j : Int, [V.int m, V.int n] = [.int i, .int j] ∧ (-(2 ^ 62) ≤ i ∧ i < 2 ^ 62 ∧ -(2 ^ 62) ≤ j ∧ j < 2 ^ 62) ∧ P i j := ⟨m, n, rfl, h, q⟩
theorem e_m0 {r : V → List V → Hp → VK → Prop} {to : TE} (q : to σ H fun x H1 => (∃ a, x = .str a) ∧ r x [] H1 Q) : tM0 r to σ H Q := q
theorem e_m1 {r : V → List V → Hp → VK → Prop} {to : TE} (q : to σ H fun x H1 => (∃ a, x = .str a) ∧ te σ H1 fun y H2 => r x [y] H2 Q) : tM1 r to te σ H Q := q
theorem e_slS {z : Str} {lo hi : Option Int} (h : z.length ≤ sizeLine) (q : Q (.str (cutS z lo hi)) H) : rSlS (.str z) lo hi H Q := ⟨z, rfl, h, q⟩
theorem e_iList {R : It → Hp → Prop} {tl : TE} (q : tl σ H fun x H1 => ∃ a, x = .ref a ∧ (∃ xs, SqL K H1 a xs) ∧ R (Itl K a) H1) : iList K tl σ H R := q
theorem e_iTup {R : It → Hp → Prop} {tl : TE} (q : tl σ H fun x H1 => ∃ a, x = .ref a ∧ (∃ xs, SqT K H1 a xs) ∧ R (Itt K a) H1) : iTup K tl σ H R := q
theorem e_iStr {R : It → Hp → Prop} {tl : TE} (q : tl σ H fun v H1 => ∃ x, v = .str x ∧ R (Its x) H1) : iStr tl σ H R := q
theorem e_iRng1 {R : It → Hp → Prop} (q : as σ H fun vs H1 => ∃ j : Int, vs = [.int j] ∧ -(2 ^ 62) ≤ j ∧ j < 2 ^ 62 ∧ R (Itr 0 j.toNat) H1) : iRng1 as σ H R := q
theorem e_iRng2 {R : It → Hp → Prop} (q : as σ H fun vs H1 => ∃ i j : Int, vs = [.int i, .int j] ∧ (-(2 ^ 62) ≤ i ∧ i < 2 ^ 62 ∧ -(2 ^ 62) ≤ j ∧ j < 2 ^ 62) ∧ R (Itr i (j - i).toNat) H1) : iRng2 as σ H R := q
theorem e_ixL {p : Addr} {xs : List V} {i : Int} (h : SqL K H p xs) (ha : atI xs i = some v) (q : Q v H) : rIxL K (.ref p) (.int i) H Q := ⟨p, xs, i, v, rfl, rfl, h, ha, q⟩
theorem e_ixT {p : Addr} {xs : List V} {i : Int} (h : SqT K H p xs) (ha : atI xs i = some v) (q : Q v H) : rIxT K (.ref p) (.int i) H Q := ⟨p, xs, i, v, rfl, rfl, h, ha, q⟩
theorem e_ixS {z : Str} {i : Int} {c : Nat} (hz : z.length ≤ sizeLine) (ha : atI z.cps.toList i = some c) (q : Q (.str ⟨#[c]⟩) H) : rIxS (.str z) (.int i) H Q := ⟨z, i, c, rfl, rfl, hz, ha, q⟩
theorem e_len {p : Addr} {ys : List V} (h : SqL K H p ys) (q : Q (.int ys.length) H) : ∃ p' ys', [V.ref p] = [V.ref p'] ∧ (SqL K H p' ys' ∨ SqT K H p' ys') ∧ Q (.int (ys'.length : Nat)) H := ⟨p, ys, rfl, .inl h, q⟩
theorem e_lenT {p : Addr} {ys : List V} (h : SqT K H p ys) (q : Q (.int ys.length) H) : ∃ p' ys', [V.ref p] = [V.ref p'] ∧ (SqL K H p' ys' ∨ SqT K H p' ys') ∧ Q (.int (ys'.length : Nat)) H := ⟨p, ys, rfl, .inr h, q⟩
theorem e_lenS {z : Str} (h : z.length ≤ sizeLine) (q : Q (.int z.length) H) : ∃ z', [V.str z] = [V.str z'] ∧ z'.length ≤ sizeLine ∧ Q (.int (z'.length : Nat)) H := ⟨z, rfl, h, q⟩
theorem e_int1 {i : Int} (q : Q (.int i) H) : (∃ i', [V.int i] = [V.int i'] ∧ Q (.int i') H) ∨ ∃ k, [V.int i] = [V.bl k] ∧ Q (.int (if k = true then 1 else 0)) H := .inl ⟨i, rfl, q⟩
theorem e_setL {p : Addr} {xs : List V} {k : Int} {j : Nat} {Q : Hp → Prop} (h : H p = some (.lst xs)) (hj : ixN xs.length k = some j) (q : Q (upd H p (.lst (xs.set j v)))) : rSetL (.ref p) (.int k) v H Q := ⟨p, xs, k, j, rfl, rfl, h, hj, q⟩
theorem e_cut {Mid : L2.St → Hp → Prop} (h1 : t { D with nx := Mid } σ H) (h2 : ∀ σ' H', Mid σ' H' → u D σ' H') : C8.tCut t u D σ H := ⟨Mid, h1, h2⟩
/-- a test that is known, or open -/
theorem i_T {A B : Prop} (h : A) : if true = true then A else B := by rw [if_pos rfl]; exact h
theorem i_F {A B : Prop} (h : B) : if false = true then A else B := by rw [if_neg Bool.false_ne_true]; exact h
theorem i_d {p : Prop} [Decidable p] {A B : Prop} (h1 : p → A) (h2 : ¬ p → B) : if decide p = true then A else B := by
  by_cases h : p
  · rw [decide_eq_true h]; exact i_T (h1 h)
  · rw [decide_eq_false h]; exact i_F (h2 h)
theorem i_nd {p : Prop} [Decidable p] {A B : Prop} (h1 : ¬ p → A) (h2 : p → B) : if (!decide p) = true then A else B := by
  by_cases h : p
  · rw [decide_eq_true h]; exact i_F (h2 h)
  · rw [decide_eq_false h]; exact i_T (h1 h)
theorem i_b {b : Bool} {A B : Prop} (h1 : b = true → A) (h2 : b = false → B) : if b = true then A else B := by
  cases b
  · exact i_F (h2 rfl)
  · exact i_T (h1 rfl)
theorem i_nself {b : Bool} {A B : Prop} (h : B) : if (!(b == b)) = true then A else B := by
  rw [beq_self_eq_true]; exact i_F h
theorem i_self {α : Type} [DecidableEq α] {x : α} {A B : Prop} (h : A) : if decide (x = x) = true then A else B := by
  rw [decide_eq_true rfl]; exact i_T h
theorem i_neself {α : Type} [DecidableEq α] {x : α} {A B : Prop} (h : B) : if (!decide (x = x)) = true then A else B := by
  rw [decide_eq_true rfl]; exact i_F h
theorem i_nb {b : Bool} {A B : Prop} (h1 : b = false → A) (h2 : b = true → B) : if (!b) = true then A else B := by
  cases b
  · exact i_T (h1 rfl)
  · exact i_F (h2 rfl)
end

section
variable {K : PySem.W.Frag} {H : Hp} {Q : VK}
theorem isi_ty {x : V} {t n : String} {b : Bool} (ty : TyX K H x (.type t)) (e : PySem.W.kitOne K (.type t) (.type n) = some b) (q : Q (.bl b) H) : rIsi K [x, .ty n] H Q := ⟨x, .ty n, _, _, b, rfl, .ty n, ty, e, q⟩
theorem isi_bb {x : Bool} (q : Q (.bl true) H) : rIsi K [.bl x, .ty "bool"] H Q := isi_ty (.base (.bl x)) (kit_ty (by decide +kernel)) q
theorem isi_ib {x : Int} (q : Q (.bl false) H) : rIsi K [.int x, .ty "bool"] H Q := isi_ty (.base (.int x)) (kit_ty (by decide +kernel)) q
theorem isi_bi {x : Bool} (q : Q (.bl true) H) : rIsi K [.bl x, .ty "int"] H Q := isi_ty (.base (.bl x)) (kit_ty (by decide +kernel)) q
theorem isi_ii {x : Int} (q : Q (.bl true) H) : rIsi K [.int x, .ty "int"] H Q := isi_ty (.base (.int x)) (kit_ty (by decide +kernel)) q
theorem isi_si {x : Str} (q : Q (.bl false) H) : rIsi K [.str x, .ty "int"] H Q := isi_ty (.base (.str x)) (kit_ty (by decide +kernel)) q
theorem isi_ni (q : Q (.bl false) H) : rIsi K [.non, .ty "int"] H Q := isi_ty (.base .non) (kit_ty (by decide +kernel)) q
theorem isi_tt {p : Addr} {xs : List V} (h : H p = some (.tup xs)) (q : Q (.bl true) H) : rIsi K [.ref p, .ty "tuple"] H Q := isi_ty (.base (.tup h)) (kit_ty (by decide +kernel)) q
theorem isi_ll {p : Addr} {xs : List V} (h : H p = some (.lst xs)) (q : Q (.bl true) H) : rIsi K [.ref p, .ty "list"] H Q := isi_ty (.base (.lst h)) (kit_ty (by decide +kernel)) q
theorem isi_lt {p : Addr} {xs : List V} (h : H p = some (.lst xs)) (q : Q (.bl false) H) : rIsi K [.ref p, .ty "tuple"] H Q := isi_ty (.base (.lst h)) (kit_ty (by decide +kernel)) q
end
/-! ### defs that are called by their names -/
structure Cal (P : Program) (w : World) (K : PySem.W.Frag) (mg : Str → Option Value) (base : Heap) (k : Nat) (x : Str) (sp : Sp) : Prop where
  ex : ∃ (f : Addr) (fd : FuncData) (ps : List Str), FnOk P w K mg base CX0 k f fd ps sp ∧ mg x = some (.ref f) ∧ PySem.W.keepIn K (.ref f) = true ∧ Binds K fd ps []
theorem pe_c {X : Cx} {k j : Nat} {x : Str} {sp : Sp} {p pos : Pos} {e : Expr} {es : List Expr} {t : TA} (c : Cal X.prog X.w X.K X.mg X.base k x sp) (hr : Room j X.A) (hk : k ≤ j) (hg : Gl X x) (ha : PA X (e :: es) t)
    (hdb : (x == ("__debug__" : Str)) = false := by decide) 
    (he : starEach (e :: es) X.env = (false, eval e X.env) :: starEach es X.env := by rfl) 
    (hpl : (backTo pos (starEach es X.env)).any (·.1) = false := by rfl) :
    PE X (.Call (.Name x p) (e :: es) [] pos) (tCall sp [] E0 t) := by
  obtain ⟨f, fd, ps, F, hm, kp, b⟩ := c.ex
  exact pe_call F (hr.mono hk) hg hm kp b .nil pass0 ha hdb he hpl
theorem pe_c0 {X : Cx} {k j : Nat} {x : Str} {sp : Sp} {p pos : Pos} (c : Cal X.prog X.w X.K X.mg X.base k x sp) (hr : Room j X.A) (hk : k ≤ j) (hg : Gl X x)
    (hdb : (x == ("__debug__" : Str)) = false := by decide) :
    PE X (.Call (.Name x p) [] [] pos) (tCall sp [] E0 tNil) := by
  obtain ⟨f, fd, ps, F, hm, kp, b⟩ := c.ex
  exact pe_call0 F (hr.mono hk) hg hm kp b .nil pass0 hdb

/-- promises by arity -/
abbrev sp0 (R : Hp → VK → Prop) : Sp := fun vs H Q _ => vs = [] ∧ R H Q
abbrev sp1 (R : V → Hp → VK → Prop) : Sp := fun vs H Q _ => ∃ a, vs = [a] ∧ R a H Q
abbrev sp2 (R : V → V → Hp → VK → Prop) : Sp := fun vs H Q _ => ∃ a b, vs = [a, b] ∧ R a b H Q
abbrev sp3 (R : V → V → V → Hp → VK → Prop) : Sp := fun vs H Q _ => ∃ a b c, vs = [a, b, c] ∧ R a b c H Q
abbrev sp4 (R : V → V → V → V → Hp → VK → Prop) : Sp := fun vs H Q _ => ∃ a b c d, vs = [a, b, c, d] ∧ R a b c d H Q


theorem sz_of {n : Nat} (h : n ≤ 1000000) : n ≤ sizeLine := Nat.le_trans h (by decide)
/-! ### heaps: all but one address as it was -/
def Kp (st : Addr) (H H' : Hp) : Prop := ∀ b o, b ≠ st → H b = some o → H' b = some o
theorem Kp.refl (st : Addr) (H : Hp) : Kp st H H := fun _ _ _ h => h
theorem Kp.trans {st : Addr} {H H1 H2 : Hp} (a : Kp st H H1) (b : Kp st H1 H2) : Kp st H H2 := fun c o n h => b c o n (a c o n h)
theorem Kp.of {st : Addr} {H H' : Hp} (a : Same H H') : Kp st H H' := fun c o _ h => a c o h
theorem same_new {H : Hp} {p : Addr} {o : HO} (h : H p = none) : Same H (upd H p o) := fun b x e => by
  rw [upd_ne (ne_of_none e h)]
  exact e
theorem Kp.new {st p : Addr} {H : Hp} {o : HO} (h : H p = none) : Kp st H (upd H p o) := Kp.of (same_new h)
/-- an object that was not there at first may change -/
theorem Kp.mut {st p : Addr} {H H' : Hp} {o : HO} (a : Kp st H H') (h : H p = none) : Kp st H (upd H' p o) := fun b x n e => by
  rw [upd_ne (ne_of_none e h)]
  exact a b x n e
theorem Kp.put {st : Addr} {H H' : Hp} {o : HO} (a : Kp st H H') : Kp st H (upd H' st o) := fun b x n e => by
  rw [upd_ne n]
  exact a b x n e
theorem Same.mut {p : Addr} {H H' : Hp} {o : HO} (a : Same H H') (h : H p = none) : Same H (upd H' p o) := fun b x e => by
  rw [upd_ne (ne_of_none e h)]
  exact a b x e
theorem Kp.free {st p : Addr} {H H' : Hp} (a : Kp st H H') (hs : ∃ o, H' st = some o) (h : H' p = none) : H p = none := by
  cases q : H p with
  | none => rfl
  | some o =>
    by_cases e : p = st
    · obtain ⟨o', h'⟩ := hs
      rw [e, h'] at h
      cases h
    · rw [a p o e q] at h
      cases h

/-- the state of the draws and the script: two ints at st, the script at sc whatever is drawn -/
structure Dr (K : PySem.W.Frag) (st sc : Addr) (ns : List Int) (H : Hp) : Prop where
  s : ∃ a b : Int, 0 ≤ a ∧ 0 ≤ b ∧ H st = some (.lst [.int a, .int b])
  sc : ∀ H', Kp st H H' → SqL K H' sc (ns.map V.int)
  len : ns.length ≤ 63
theorem Dr.kp {K : PySem.W.Frag} {st sc : Addr} {ns : List Int} {H H' : Hp} (d : Dr K st sc ns H) (k : Kp st H H') (s : ∃ a b : Int, 0 ≤ a ∧ 0 ≤ b ∧ H' st = some (.lst [.int a, .int b])) : Dr K st sc ns H' :=
  ⟨s, fun H2 k2 => d.sc H2 (k.trans k2), d.len⟩
theorem Dr.same {K : PySem.W.Frag} {st sc : Addr} {ns : List Int} {H H' : Hp} (d : Dr K st sc ns H) (k : Same H H') : Dr K st sc ns H' := by
  obtain ⟨a, b, h1, h2, h3⟩ := d.s
  exact d.kp (Kp.of k) ⟨a, b, h1, h2, k _ _ h3⟩
theorem Dr.seq {K : PySem.W.Frag} {st sc : Addr} {ns : List Int} {H : Hp} (d : Dr K st sc ns H) : SqL K H sc (ns.map V.int) := d.sc H (Kp.refl st H)
theorem sq_keep {K : PySem.W.Frag} {H H' : Hp} {a p : Addr} {xs : List V} (h : SqL K H a xs) (hp : H p = none) (k : Kp p H H') : SqL K H' a xs := by
  rcases h with (h | ⟨c9, h⟩) | h
  · exact .inl (.inl (k _ _ (ne_of_none h hp) h))
  · exact .inl (.inr ⟨c9, k _ _ (ne_of_none h hp) h⟩)
  · exact .inr h
theorem Dr.start {K : PySem.W.Frag} {st sc : Addr} {ns : List Int} {H : Hp} (h : SqL K H sc (ns.map V.int)) (hp : H st = none) (hl : ns.length ≤ 63) : Dr K st sc ns (upd H st (.lst [.int 0, .int 0])) :=
  ⟨⟨0, 0, by decide, by decide, upd_same⟩, fun H' k => sq_keep h hp fun b o n e => k b o n (by rw [upd_ne n]; exact e), hl⟩
theorem Dr.ne {K : PySem.W.Frag} {st sc p : Addr} {ns : List Int} {H : Hp} (d : Dr K st sc ns H) (h : H p = none) : p ≠ st := by
  obtain ⟨a, b, _, _, h3⟩ := d.s
  intro e
  rw [e, h3] at h
  cases h
theorem pick_int {l : List Int} {d : Int} (h0 : 0 ≤ d) (h1 : d < l.length) : ∃ n, n ∈ l ∧ atI (l.map V.int) d = some (.int n) := by
  have h : d.toNat < l.length := by omega
  exact ⟨l[d.toNat], List.getElem_mem h, at_of (j := d.toNat) (by omega) (by rw [List.getElem?_map, List.getElem?_eq_getElem h]; rfl)⟩
theorem pick_nat {l : List Nat} {d : Int} (h0 : 0 ≤ d) (h1 : d < l.length) : ∃ n, n ∈ l ∧ atI l d = some n := by
  have h : d.toNat < l.length := by omega
  obtain ⟨j, hj⟩ : ∃ j : Nat, d = (j : Int) := ⟨d.toNat, by omega⟩
  have h2 : j < l.length := by omega
  subst hj
  exact ⟨l[j], List.getElem_mem h2, atI_nat (List.getElem?_eq_getElem h2)⟩
theorem at_last {ns : List Int} (h : 0 < ns.length) : ∃ x, atI (ns.map V.int) (-1) = some (.int x) := by
  have e : ns = ns.dropLast ++ [ns.getLast (by intro q; rw [q] at h; cases h)] := (List.dropLast_concat_getLast _).symm
  rw [e, List.map_append]
  exact ⟨_, atI_last _ _⟩
theorem pick_sign {z : Str} {d : Int} (h0 : 0 ≤ d) (h1 : d < (z.length : Int)) : ∃ c, c ∈ z.cps.toList ∧ atI z.cps.toList d = some c :=
  pick_nat h0 (by simpa [Str.length] using h1)
theorem len_app (a b : Str) : (a ++ b).length = a.length + b.length := PySem.Str.length_append a b
/-- what a call behind which only the draws' state has changed hands on -/
def RDraw (K : PySem.W.Frag) (st sc : Addr) (ns : List Int) (H : Hp) (G : Hp → Prop) : Prop := Dr K st sc ns H ∧ ∀ H', Kp st H H' → Dr K st sc ns H' → G H'
theorem Dr.mut {K : PySem.W.Frag} {st sc p : Addr} {ns : List Int} {H0 H1 : Hp} {o : HO} (d0 : Dr K st sc ns H0) (d : Dr K st sc ns H1) (hp : H0 p = none) (k : Kp st H0 H1) : Dr K st sc ns (upd H1 p o) := by
  obtain ⟨a, b, h1, h2, h3⟩ := d.s
  exact d0.kp (k.mut hp) ⟨a, b, h1, h2, by rw [upd_ne (d0.ne hp).symm]; exact h3⟩
section
variable {K : PySem.W.Frag} {g : TG} {σ : L2.St} {te : TE} {vs : List Nat} {Q : VK} {Da st sc : Addr} {ns : List Int} {H0 : Hp}
/-- [e for k in range(..)], e with draws -/
theorem lc_dr {lo : Int} {n : Nat} (d0 : Dr K st sc ns H0) (hD : H0 Da = none) (hn : n ≤ 1000000) (Pe : V → Prop)
    (hs : ∀ (i : Nat) (H2 : Hp) (C : VK) (E : Hp → Prop), i < n → Kp st H0 H2 → Dr K st sc ns H2 → (∀ y H3, Kp st H2 H3 → Dr K st sc ns H3 → Pe y → C y H3) →
      g (.int (lo + i)) (wipe σ vs) H2 fun σ2 H2 => wipe σ2 vs = wipe σ vs ∧ tYes σ2 H2 fun b H3 => if b = true then te σ2 H3 C else E H3)
    (hd : ∀ (H : Hp) (xs : List V), Kp st H0 H → Dr K st sc ns H → H Da = some (.lst xs) → xs.length = n → (∀ x ∈ xs, Pe x) → Q (.ref Da) H) : LcB (Itr lo n) g tYes te vs σ Da H0 Q := by
  have nD := d0.ne hD
  refine lc_rng (fun i H2 => Kp st H0 H2 ∧ Dr K st sc ns H2 ∧ ∃ xs : List V, H2 Da = some (.lst xs) ∧ xs.length = i ∧ ∀ x ∈ xs, Pe x) ⟨Kp.new hD, d0.same (same_new hD), [], upd_same, rfl, fun _ hy => by cases hy⟩ (fun i H2 hi p => ?_) (fun H2 p => ?_)
  · obtain ⟨k4, d4, xs, e4, l4, o4⟩ := p
    refine hs i H2 _ _ hi k4 d4 fun y H3 k5 d5 hy => ?_
    refine ⟨xs, k5 _ _ nD e4, Nat.lt_of_le_of_lt (Nat.le_of_lt (by omega : xs.length < 1000001)) (by decide), (k4.trans k5).mut hD, Dr.mut d0 d5 hD (k4.trans k5), xs ++ [y], upd_same, by simp [l4], fun z hz => ?_⟩
    rcases List.mem_append.mp hz with h | h
    · exact o4 z h
    · rw [List.mem_singleton.mp h]; exact hy
  · obtain ⟨k4, d4, xs, e4, l4, o4⟩ := p
    exact hd H2 xs k4 d4 e4 l4 o4
/-- [e for k in range(..)], e a function of k -/
theorem lc_map_rng {lo : Int} {n : Nat} (hD : H0 Da = none) (hn : n ≤ 1000000) (f : Nat → V)
    (hs : ∀ (i : Nat) (H2 : Hp) (C : VK) (E : Hp → Prop), i < n → Same H0 H2 → (∀ H3, Same H2 H3 → C (f i) H3) →
      g (.int (lo + i)) (wipe σ vs) H2 fun σ2 H2 => wipe σ2 vs = wipe σ vs ∧ tYes σ2 H2 fun b H3 => if b = true then te σ2 H3 C else E H3)
    (hd : ∀ (H : Hp), Same H0 H → H Da = some (.lst ((List.range n).map f)) → Q (.ref Da) H) : LcB (Itr lo n) g tYes te vs σ Da H0 Q := by
  refine lc_rng (fun i H2 => Same H0 H2 ∧ H2 Da = some (.lst ((List.range i).map f))) ⟨same_new hD, upd_same⟩ (fun i H2 hi p => ?_) (fun H2 p => hd H2 p.1 p.2)
  obtain ⟨k4, e4⟩ := p
  refine hs i H2 _ _ hi k4 fun H3 k5 => ?_
  refine ⟨_, k5 _ _ e4, Nat.lt_of_le_of_lt (by simp; omega : _ ≤ 1000000) (by decide), Same.mut (k4.trans k5) hD, ?_⟩
  rw [upd_same, List.range_succ, List.map_append]
  rfl
/-- [e for x in xs], a list, e a function of x -/
theorem lc_map_lst {a : Addr} {xs : List V} (hS : SqL K H0 a xs) (hD : H0 Da = none) (hn : xs.length ≤ 1000000) (f : V → V)
    (hs : ∀ (x : V) (H2 : Hp) (C : VK) (E : Hp → Prop), x ∈ xs → Same H0 H2 → (∀ H3, Same H2 H3 → C (f x) H3) →
      g x (wipe σ vs) H2 fun σ2 H2 => wipe σ2 vs = wipe σ vs ∧ tYes σ2 H2 fun b H3 => if b = true then te σ2 H3 C else E H3)
    (hd : ∀ (H : Hp), Same H0 H → H Da = some (.lst (xs.map f)) → Q (.ref Da) H) : LcB (Itl K a) g tYes te vs σ Da H0 Q := by
  refine lc_lst (xs := xs) (fun pre H2 => Same H0 H2 ∧ H2 Da = some (.lst (pre.map f)) ∧ pre.length ≤ xs.length) ⟨same_new hD, upd_same, Nat.zero_le _⟩ (fun pre H2 p => p.1.seq hS) (fun pre x post H2 e p => ?_) (fun H2 p => hd H2 p.1 p.2.1)
  obtain ⟨k4, e4, l4⟩ := p
  refine hs x H2 _ _ (by rw [e]; simp) k4 fun H3 k5 => ?_
  refine ⟨_, k5 _ _ e4, Nat.lt_of_le_of_lt (by simp; omega : _ ≤ 1000000) (by decide), Same.mut (k4.trans k5) hD, ?_, by rw [e]; simp⟩
  rw [upd_same, List.map_append]
  rfl
end
/-- a draw: any number below the size -/
def spDraw (K : PySem.W.Frag) : Sp := sp3 fun a b c H Q => ∃ (st sc : Addr) (ns : List Int) (n : Int), a = .ref st ∧ b = .ref sc ∧ c = .int n ∧ Dr K st sc ns H ∧ 0 < n ∧ n < 2 ^ 60 ∧
  ∀ (d : Int) (H' : Hp), 0 ≤ d → d < n → Kp st H H' → Dr K st sc ns H' → Q (.int d) H'

abbrev FnP (K : PySem.W.Frag) (x : Str) (st : Stmt) (f : Addr) (fd : FuncData) : Prop :=
  FunD K x x (defArgs st) (defBody st) (defScope st) [] [] f fd
end Vf

namespace PySem
open Sem (wp)
theorem meets_enumerate_newTup (l : Addr) (row : Array Value) (ob : Obj) (cap : Nat) :
    Meets (Builtin.«enumerate.__new__» ⟨[.type "enumerate", .ref l], []⟩) (fun _ R s => (s.heap.get? l = some ob ∧ ob.cls = .type "tuple" ∧ ob.data = .seq row cap) ∧
      R (.ok (.ret (.ref (s.heap.push { cls := .type "tuple_iterator", data := .fields #[.ref l, .int 0 0] }).objs.size)))
        { s with heap := (s.heap.push { cls := .type "tuple_iterator", data := .fields #[.ref l, .int 0 0] }).push { cls := .type "enumerate", data := .fields #[.none, .bool false, .ref s.heap.objs.size, rawInt 0, .none, .none] } }) :=
  .of_wp fun prg w A R s h => by
    obtain ⟨hp, g, d, tk, os⟩ := s; obtain ⟨⟨hl9, wc, wd⟩, h⟩ := h
    have hsub := sub_enumerate
    have isT : Heap.IsTuple (Shared.heap ⟨hp, g, d, tk, os⟩) l row := ⟨_, hl9, wc, cap, wd⟩
    have q1 : ∀ {A' : Around} {E : Value → Shared → Prop} {Q : Value → Shared → Prop}, Q (.ref hp.objs.size) ⟨hp.push { cls := .type "tuple_iterator", data := .fields #[.ref l, .int 0 0] }, g, d, tk, os⟩ → wpAny (model prg w) A' (pyIter (.ref l)) Q E ⟨hp, g, d, tk, os⟩ :=
      fun q => wpAny_pyIter_tuple isT q
    wp_walk using q1
    refine wpAny_stack_any fun here => wpAny_pure ?_
    split
    · rename_i cls9 _ _ _ _ _
      cases (cls9 == Value.type "enumerate")
      · wp_walk using q1
        exact ⟨_, rfl, h⟩
      · wp_walk using q1
        exact ⟨_, rfl, h⟩
    · wp_walk using q1
      exact ⟨_, rfl, h⟩
section
variable {prg : Program} {w : World} {A : Around} {E : Value → Shared → Prop} {s : Shared}
/-- the object that enumerate makes, and the turning over a tuple -/
abbrev enOf (it : Addr) : Obj := { data := .fields #[.none, .bool false, .ref it, rawInt 0, .none, .none], cls := .type "enumerate" }
abbrev tiOf (l : Addr) : Obj := { data := .fields #[.ref l, .int 0 0], cls := .type "tuple_iterator" }
theorem call_enumerate_tup {l : Addr} {row : Array Value} {Q : Value → Shared → Prop} (isT : s.heap.IsTuple l row)
    (h : ∀ h', IsEnum h' (s.heap.objs.size + 1) s.heap.objs.size 0 .none → h'.IsTupleIter s.heap.objs.size l 0 → h'.objs.size = s.heap.objs.size + 2 →
      (∀ bb ob, s.heap.get? bb = some ob → h'.get? bb = some ob) → Q (.ref (s.heap.objs.size + 1)) { s with heap := h' }) :
    wpAny (model prg w) A
      (call (.type "enumerate") [.ref l]) Q E s := by
  obtain ⟨ob, hl9, wc, cap, wd⟩ := isT
  refine callType_new F.called_enumerate (by decide) (F.typeCall_enumerate_1 _)
    (F.newCall_enumerate_1 _) (fun it => F.args_object_init_2 it _) F.entry_enumerate_new (meets_enumerate_newTup l row ob cap) ⟨⟨hl9, wc, wd⟩, ?_⟩
  have szz : (s.heap.push (tiOf l)).objs.size = s.heap.objs.size + 1 := Heap.size_push ..
  show _ ∧ _
  rw [szz]
  have qe : IsEnum ((s.heap.push (tiOf l)).push
      (enOf s.heap.objs.size)) (s.heap.objs.size + 1) s.heap.objs.size 0 .none := by
    have := Heap.get?_push_size (s.heap.push (tiOf l))
      (o := enOf s.heap.objs.size) rfl
    rw [szz] at this; exact this
  refine ⟨⟨_, qe, rfl⟩, h _ qe ⟨_, Heap.get?_push_of_some _ (Heap.get?_push_size _ rfl), rfl, rfl⟩ (by rw [Heap.size_push, szz]) fun bb ob x => Heap.get?_push_of_some _ (Heap.get?_push_of_some _ x)⟩
theorem enumT_end {e it t : Addr} {i : Nat} {row : Array Value} {prev : Value} {Q : Option Value → Shared → Prop} (hh : A.handled = none)
    (qe : IsEnum s.heap e it i prev) (qi : s.heap.IsTupleIter it t i) (hl9 : s.heap.IsTuple t row) (ne2 : t ≠ it) (atx : row[i]? = none)
    (hQ : ∀ h', Heap.ExtBut it s.heap h' → Q none { s with heap := h' }) : wpAny (model prg w) A (pyNext (.ref e)) Q E s := by
  have ty1 : s.TypeIs (.ref e) "enumerate" := ⟨_, qe, rfl⟩
  unfold pyNext
  refine wpAny_bind (wpAny_attempt (wpAny_callSpecial?_slot (name := Str.ofString "__next__") ty1 F.slot_enumerate_next
    (wpAny_call_entry F.slot_enumerate_next ty1 F.entry_enumerate_next ?_ (F.args_enumerate_next_1 _))))
  show wpAny (model prg w) A.in1
    (field (.ref e) 2 >>= _) _ _ s
  refine wpAny_bind (wpAny_field qe rfl (x := .ref it) rfl ?_)
  refine wpAny_bind (wpAny_nextOf_tuple_end hh qi hl9 atx fun h' x he' hx' => ?_)
  obtain ⟨ob, wo, wc⟩ := hx'
  refine wpAny_bind (wpAny_isInstance (T := "StopIteration") (b := true) ⟨ob, wo, wc⟩ isSubtype_stop ?_)
  exact wpAny_pure (hQ _ he')
end
end PySem
namespace Vf
open PySem L2 PySem.Spec PyProof.Rows
/-- enumerate(t), t a tuple -/
def IteT (K : PySem.W.Frag) (a : Addr) : It :=
  ⟨fun i H => ∃ (xs : List V) (x : V), SqT K H a xs ∧ xs[i]? = some x, fun i H v H' => ∃ T x, v = .ref T ∧ H T = none ∧ H' = upd H T (.tup [.int (i : Nat), x]) ∧ ∀ xs, SqT K H a xs → xs[i]? = some x, fun i H => ∃ xs : List V, SqT K H a xs ∧ xs.length ≤ i⟩
theorem turn_enumT {P : Program} {w : World} {K : PySem.W.Frag} {elts : List Expr} {kk : Nat} {tpos : Pos} (a e it : Addr) :
    Turn P w K (.Tuple elts kk tpos) (IteT K a) [e, it] e (fun i h => (∃ prev, IsEnum h e it ((i : Nat) : Int) prev) ∧ h.IsTupleIter it a i ∧ e ≠ it) where
  mem := by simp
  obj := fun i h here bb mb => by
    obtain ⟨⟨prev, qe⟩, ⟨ob, wo, wc, wd⟩, _⟩ := here
    have e' : bb = e ∨ bb = it := by simpa using mb
    rcases e' with z | z
    · rw [z]; exact ⟨_, qe, fun v q => nomatch q⟩
    · rw [z]; exact ⟨ob, wo, fun v q => by rw [wd] at q; cases q⟩
  keep := fun i h h' here k => let ⟨⟨prev, qe⟩, hi9, qn⟩ := here; ⟨⟨prev, k e (by simp) _ qe⟩, hi9.at fun ob q => k it (by simp) ob q, qn⟩
  item := by
    intro X hP hw hK wc i pins s σ H E I fp here got
    subst hP hw hK
    obtain ⟨⟨prev, qe⟩, qi, qn⟩ := here
    obtain ⟨xs, x, wq, atx⟩ := got
    obtain ⟨cells, rds, p, szz⟩ := I.tuple wq
    obtain ⟨u, mu, rdu⟩ := rds.get atx
    have le1 : e < s.heap.objs.size := Heap.lt_size qe
    have le2 : it < s.heap.objs.size := by obtain ⟨_, q, _⟩ := qi; exact Heap.lt_size q
    have ne1 : a ≠ e := by
      intro z
      obtain ⟨ob, wo, hc2, _⟩ := p
      rw [z, qe] at wo
      cases wo
      injection hc2 with q
      exact absurd q (by decide)
    have ne2 : a ≠ it := by
      intro z
      obtain ⟨ob, wo, hc2, _⟩ := p
      obtain ⟨o2, ho2, hc3, _⟩ := qi
      rw [z, ho2] at wo
      cases wo
      rw [hc3] at hc2
      injection hc2 with q
      exact absurd q (by decide)
    have hlt : i < cells.toArray.size := by
      have := (List.getElem?_eq_some_iff.mp mu).1
      simpa using this
    refine wpAny_pyNext_enum_itemD (Draws.tuple (A := X.A.in1) (show X.A.in1.handled = none from I.ok.hd wc) it a ne2 cells.toArray) qe ⟨qi, p⟩ hlt qn (by simp [qn, Ne.symm ne1]) fun x' h' tk hP wo hst' ty1 hsz keep1 => ?_
    have ex : x' = u := by
      have q1 : cells[i]? = some x' := by simpa using hP
      exact Option.some.inj (q1.symm.trans mu)
    subst ex
    refine ⟨_, rfl, wpAny_letOwnedTupleGo_enum (s := { s with heap := h', toks := tk + 1 }) wo fun h'' he' only1 => ?_⟩
    have ty2 : h''.get? s.heap.objs.size = some { cls := .type "tuple", data := .seq #[.int i tk, x'] } := (only1.2 _ (Nat.ne_of_gt le1)).trans ty1
    have fresh1 : ObjOk X.prog X.w (upd H s.heap.objs.size (.tup [.int (i : Nat), x])) h'' s.heap.objs.size (.tup [.int (i : Nat), x]) :=
      ⟨by show 2 ≤ sizeLine; decide, [.int i tk, x'], .cons ⟨_, rfl⟩ (.cons rdu .nil), ⟨_, ty2, rfl, _, rfl⟩⟩
    have J1 : Inv X pins σ (upd H s.heap.objs.size (.tup [.int (i : Nat), x])) { s with heap := h'', toks := tk + 1 } :=
      I.turnedNew (ch := [e, it]) (fun bb ob mb q => (only1.2 bb (fun z => mb (by simp [z]))).trans (keep1 bb ob (fun z => mb (by simp [z])) (fun z => mb (by simp [z])) q)) fp (Nat.le_refl _) fresh1
    refine ⟨.ref s.heap.objs.size, _, J1, rfl, ⟨_, x, rfl, I.hok.fresh (Nat.le_refl _), rfl, fun ys hy => by rw [I.tuple_inj hy wq]; exact atx⟩, ⟨⟨x', ?_⟩, hst'.1.at fun ob q => (only1.2 it (Ne.symm qn)).trans q, qn⟩, fun bb mb => ?_⟩
    · have up1 : ((i + 1 : Nat) : Int) = (i : Int) + 1 := by
        omega
      rw [up1]; exact he'
    · have below : bb < s.heap.objs.size := by
        have two : bb = e ∨ bb = it := by simpa using mb
        rcases two with rfl | rfl
        · exact le1
        · exact le2
      rw [upd_ne (Nat.ne_of_lt below)]
      exact (fp bb mb).1
  done := by
    intro X hP hw hK wc i pins s σ H E I fp here got
    subst hP hw hK
    obtain ⟨⟨prev, qe⟩, qi, qn⟩ := here
    obtain ⟨xs, wq, atx⟩ := got
    obtain ⟨cells, rds, p, szz⟩ := I.tuple wq
    obtain ⟨f0, f1, f2, f3, f4, f5⟩ := fp it (by simp)
    have hl := rds.length
    have ne2 : a ≠ it := by
      intro z
      obtain ⟨ob, wo, hc2, _⟩ := p
      obtain ⟨o2, ho2, hc3, _⟩ := qi
      rw [z, ho2] at wo
      cases wo
      rw [hc3] at hc2
      injection hc2 with q
      exact absurd q (by decide)
    refine enumT_end (I.ok.hd wc) qe qi p ne2 (by simp; omega) fun h' eb => ⟨rfl, I.turned (t' := s.toks) (fun bb ob mb q => eb bb ob mb q) f0 f1 f3 f4 f5⟩
  self := fun A i s Q E here h => let ⟨⟨_, qe⟩, _⟩ := here; wpAny_pyIter_enum qe h
def iEnumT (K : PySem.W.Frag) (ta : TA) : TI := fun σ H R => ta σ H fun vs H1 => ∃ a xs, vs = [.ref a] ∧ SqT K H1 a xs ∧ R (IteT K a) H1
theorem pi_enumT {X : Cx} {e : Expr} {ta : TA} {p pos tpos : Pos} {elts : List Expr} {kk : Nat} (got : Gl X "enumerate") (hm : X.mg "enumerate" = none) (ha : PA X [e] ta) (hs : starEach [e] X.env = [(false, eval e X.env)] := by rfl) :
    PI X (.Tuple elts kk tpos) (.Call (.Name "enumerate" p) [e] [] pos) (iEnumT X.K ta) := by
  constructor
  intro pins s σ H R I h
  refine Call_ (ld_blt I got hm boot_enumerate (PyProof.Rows.callWith_type1 (thn (ha.run pos pins s σ H _ I h) fun us s1 ⟨vs, H1, J1, r1, q1⟩ => ?_) hs rfl))
  obtain ⟨a, xs, ex, wq, q⟩ := q1
  subst ex
  cases r1 with
  | cons r rr =>
    cases rr
    cases r
    obtain ⟨cells, rds, p', szz⟩ := J1.tuple wq
    refine call_enumerate_tup p' fun h' qe qi hsz keep1 => wpAny_pyIter_enum qe ?_
    have J2 : Inv X pins σ H1 { s1 with heap := h' } := J1.kept (t' := s1.toks) keep1
    refine ⟨s1.heap.objs.size + 1, [s1.heap.objs.size + 1, s1.heap.objs.size], _, _, H1, rfl, J2, turn_enumT a (s1.heap.objs.size + 1) s1.heap.objs.size, ⟨⟨.none, qe⟩, qi, Nat.succ_ne_self _⟩, fun bb mb => ?_, q⟩
    have e' : bb = s1.heap.objs.size + 1 ∨ bb = s1.heap.objs.size := by simpa using mb
    have above : bb ≥ s1.heap.objs.size := by
      rcases e' with w9 | w9 <;> rw [w9]
      · exact Nat.le_succ _
      · exact Nat.le.refl
    exact J1.fpOk above (J1.hok.fresh above)
/-- enumerate of a list or of a tuple -/
theorem pi_or {X : Cx} {tg l : Expr} {w1 w2 : TI} (h1 : PI X tg l w1) (h2 : PI X tg l w2) : PI X tg l (fun σ H R => w1 σ H R ∨ w2 σ H R) := ⟨fun pins s σ H R I h => by
  rcases h with h | h
  · exact h1.run pins s σ H R I h
  · exact h2.run pins s σ H R I h⟩
end Vf

namespace Vf
open PySem L2 PySem.Spec PyProof.Rows
/-! ### rules with the written part named (inside a comprehension nothing may lean on its block) -/
section
variable {X : Cx} (K : PySem.W.Frag) {pos : Pos}
theorem ixL (hK : X.K = K := by rfl) : IxR X (rIxL K) := hK ▸ ix_list
theorem ixT (hK : X.K = K := by rfl) : IxR X (rIxT K) := hK ▸ ix_tup
theorem slL (hK : X.K = K := by rfl) : SlR X (rSlL K) := hK ▸ sl_list
theorem slT (hK : X.K = K := by rfl) : SlR X (rSlA K) := hK ▸ sl_tupA
theorem eqDK (hu : X.A.units + 64 < cLine) (hK : X.K = K := by rfl) : OpR X (compareOp .Eq) (rEqD K) := hK ▸ op_eqD hu
theorem neDK (hu : X.A.units + 64 < cLine) (hK : X.K = K := by rfl) : OpR X (compareOp .NotEq) (rNeD K) := hK ▸ op_neD hu
theorem inSK (hK : X.K = K := by rfl) : OpR X (compareOp .In) (rIn K false) := hK ▸ op_in_seq
theorem niSK (hK : X.K = K := by rfl) : OpR X (compareOp .NotIn) (rIn K true) := hK ▸ op_notIn_seq
theorem lenSK (hK : X.K = K := by rfl) : CallR X (.builtin "len") (fun xs H Q => ∃ p ys, xs = [.ref p] ∧ (SqL K H p ys ∨ SqT K H p ys) ∧ Q (.int (ys.length : Nat)) H) := hK ▸ call_len_seq
theorem lstOK (hK : X.K = K := by rfl) : CallR X (.type "list") (fun xs H Q => ∃ p ys, xs = [.ref p] ∧ (SqL K H p ys ∨ SqT K H p ys) ∧ ∀ l, H l = none → Q (.ref l) (upd H l (.lst ys))) := hK ▸ call_list_of
theorem isiK (hK : X.K = K := by rfl) : CallR X (.builtin "isinstance") (rIsi K) := hK ▸ call_isi
theorem pe_fldK {e : Expr} {f : Str} {ta : TE} (ha : PE X e ta) (hb : attributeBase e f X.env (eval e X.env) = eval e X.env := by rfl) (hK : X.K = K := by rfl) : PE X (.Attribute e f pos) (tFld K ta f) := hK ▸ pe_fld ha hb
theorem pg_tupK {es : List Expr} {k : Nat} {t : TGs} {n : Nat} (hc : X.calm = true) (h : PGs X es t)
    (hn : (assignEach es X.env).length = n := by rfl) (hst : (assignEach es X.env).findIdx? (·.1) = none := by rfl) (hK : X.K = K := by rfl) : PG X (.Tuple es k pos) (gTup K n t) := hK ▸ pg_tup hc h hn hst
end
/-! ### readings of these -/
section
variable {σ : L2.St} {H : Hp} {K : PySem.W.Frag} {ta tb : TE} {as : TA}
theorem e_iRevR {tr : L2.St → Hp → (Int → Int → Hp → Prop) → Prop} {R : It → Hp → Prop} (q : tr σ H fun a b H1 => -(2 ^ 62) ≤ a ∧ a < 2 ^ 62 ∧ -(2 ^ 62) ≤ b ∧ b < 2 ^ 62 ∧ R (Itc (a + (((b - a).toNat : Nat) : Int) - 1) (-1) (b - a).toNat) H1) : iRevR tr σ H R := q
theorem e_rg1 {Q : Int → Int → Hp → Prop} (q : ta σ H fun x H1 => ∃ n, x = .int n ∧ Q 0 n H1) : tRg1 ta σ H Q := q
theorem e_rg2 {Q : Int → Int → Hp → Prop} (q : ta σ H fun x H1 => tb σ H1 fun y H2 => ∃ i j, x = .int i ∧ y = .int j ∧ Q i j H2) : tRg2 ta tb σ H Q := q
theorem e_iEnum {R : It → Hp → Prop} (q : as σ H fun vs H1 => ∃ a xs, vs = [.ref a] ∧ SqL K H1 a xs ∧ R (Ite K a) H1) : iEnum K as σ H R := q
theorem e_iEnumT {R : It → Hp → Prop} (q : as σ H fun vs H1 => ∃ a xs, vs = [.ref a] ∧ SqT K H1 a xs ∧ R (IteT K a) H1) : iEnumT K as σ H R := q
theorem e_iRng3 {R : It → Hp → Prop} (q : as σ H fun vs H1 => ∃ (i j c : Int) (n : Nat), vs = [.int i, .int j, .int c] ∧ RgC i j c n ∧ R (Itc i c n) H1) : iRng3 as σ H R := q
theorem e_slL {Q : VK} {p : Addr} {xs : List V} {lo hi : Option Int} (h : SqL K H p xs) (q : ∀ r, H r = none → Q (.ref r) (upd H r (.lst (cutV xs lo hi)))) : rSlL K (.ref p) lo hi H Q := ⟨p, xs, rfl, h, q⟩
theorem e_app {Q : VK} {l : Addr} {xs : List V} {y : V} (h : H l = some (.lst xs)) (hz : xs.length < sizeLine) (q : Q .non (upd H l (.lst (xs ++ [y])))) : rAppend (.ref l) [y] H Q := ⟨l, xs, y, rfl, rfl, h, hz, q⟩
theorem e_ext {Q : VK} {l b : Addr} {xs zs : List V} (h : H l = some (.lst xs)) (hb : H b = some (.lst zs)) (hz : xs.length + zs.length ≤ sizeLine) (q : Q .non (upd H l (.lst (xs ++ zs)))) : rExtend (.ref l) [.ref b] H Q := ⟨l, b, xs, zs, rfl, rfl, h, hb, hz, q⟩
end
/-! ### rows of ints as data -/
abbrev Di (l : List Int) : List PyData := l.map PyData.int
theorem dpAll_ints {K : PySem.W.Frag} {H : Hp} : ∀ xs : List Int, DpAll K H (xs.map V.int) (Di xs)
  | [] => .nil
  | x :: r => .cons (.int x) (dpAll_ints r)
theorem eqvAll_ints : ∀ xs ys : List Int, PyData.eqvAll (Di xs) (Di ys) = decide (xs = ys)
  | [], [] => by
      simp [PyData.eqvAll]
  | [], _ :: _ => by
      simp [PyData.eqvAll]
  | _ :: _, [] => by
      simp [PyData.eqvAll]
  | x :: xs, y :: ys => by
    have ih := eqvAll_ints xs ys
    show (PyData.eqv (.int x) (.int y) && PyData.eqvAll (Di xs) (Di ys)) = _
    rw [ih]
    show ((x == y) && decide (xs = ys)) = decide (x :: xs = y :: ys)
    by_cases h : x = y
    · subst h; simp
    · simp [h]
theorem canAll_ints : ∀ xs : List Int, PyData.canLayAll0 (Di xs) = true
  | [] => rfl
  | x :: r => by
    show (PyData.canLay0 (.int x) && PyData.canLayAll0 (Di r)) = true
    rw [canAll_ints r]; rfl
theorem depthAll_ints : ∀ xs : List Int, PyData.depthAll (Di xs) = 0
  | [] => rfl
  | x :: r => by
    show max 0 (PyData.depthAll (Di r)) = 0
    rw [depthAll_ints r]; rfl
theorem shaped_list {ds : List PyData} (h1 : PyData.canLayAll0 ds = true) (h2 : PyData.depthAll ds ≤ 60) : SeqAt.shaped (.list ds) = true := by
  unfold SeqAt.shaped
  rw [show PyData.canLay0 (.list ds) = PyData.canLayAll0 ds from rfl, h1, show PyData.depth (.list ds) = PyData.depthAll ds + 1 from rfl]
  simp
  omega
theorem shaped_tuple {ds : List PyData} (h1 : PyData.canLayAll0 ds = true) (h2 : PyData.depthAll ds ≤ 60) : SeqAt.shaped (.tuple ds) = true := by
  unfold SeqAt.shaped
  rw [show PyData.canLay0 (.tuple ds) = PyData.canLayAll0 ds from rfl, h1, show PyData.depth (.tuple ds) = PyData.depthAll ds + 1 from rfl]
  simp
  omega
theorem shaped_li (xs : List Int) : SeqAt.shaped (.list (Di xs)) = true := shaped_list (canAll_ints xs) (by rw [depthAll_ints]; decide)
theorem shaped_ti (xs : List Int) : SeqAt.shaped (.tuple (Di xs)) = true := shaped_tuple (canAll_ints xs) (by rw [depthAll_ints]; decide)
section
variable {K : PySem.W.Frag} {H : Hp} {Q : VK} {a b : Addr} {xs ys : List Int}
theorem e_eqLL (h1 : SqL K H a (xs.map V.int)) (h2 : SqL K H b (ys.map V.int)) (q : Q (.bl (decide (xs = ys))) H) : rEqD K (.ref a) (.ref b) H Q :=
  ⟨_, _, .lst h1 (dpAll_ints xs), .lst h2 (dpAll_ints ys), shaped_li xs, shaped_li ys, by rw [show PyData.eqv (.list (Di xs)) (.list (Di ys)) = PyData.eqvAll (Di xs) (Di ys) from rfl, eqvAll_ints]; exact q⟩
theorem e_neLL (h1 : SqL K H a (xs.map V.int)) (h2 : SqL K H b (ys.map V.int)) (q : Q (.bl (!decide (xs = ys))) H) : rNeD K (.ref a) (.ref b) H Q :=
  ⟨_, _, .lst h1 (dpAll_ints xs), .lst h2 (dpAll_ints ys), shaped_li xs, shaped_li ys, by rw [show PyData.eqv (.list (Di xs)) (.list (Di ys)) = PyData.eqvAll (Di xs) (Di ys) from rfl, eqvAll_ints]; exact q⟩
theorem e_eqTT (h1 : SqT K H a (xs.map V.int)) (h2 : SqT K H b (ys.map V.int)) (q : Q (.bl (decide (xs = ys))) H) : rEqD K (.ref a) (.ref b) H Q :=
  ⟨_, _, .tup h1 (dpAll_ints xs), .tup h2 (dpAll_ints ys), shaped_ti xs, shaped_ti ys, by rw [show PyData.eqv (.tuple (Di xs)) (.tuple (Di ys)) = PyData.eqvAll (Di xs) (Di ys) from rfl, eqvAll_ints]; exact q⟩
theorem e_neTT (h1 : SqT K H a (xs.map V.int)) (h2 : SqT K H b (ys.map V.int)) (q : Q (.bl (!decide (xs = ys))) H) : rNeD K (.ref a) (.ref b) H Q :=
  ⟨_, _, .tup h1 (dpAll_ints xs), .tup h2 (dpAll_ints ys), shaped_ti xs, shaped_ti ys, by rw [show PyData.eqv (.tuple (Di xs)) (.tuple (Di ys)) = PyData.eqvAll (Di xs) (Di ys) from rfl, eqvAll_ints]; exact q⟩
end
/-! ### the order of alike data -/
def rLtD (K : PySem.W.Frag) : R2 := fun x y H Q => ∃ d e, Dp K H x d ∧ Dp K H y e ∧ PySem.W.alike d e = true ∧ d ≠ .none ∧ d.depth ≤ 60 ∧ Q (.bl (PySem.W.dataLt d e)) H
def rGtD (K : PySem.W.Frag) : R2 := fun x y H Q => ∃ d e, Dp K H x d ∧ Dp K H y e ∧ PySem.W.alike d e = true ∧ d ≠ .none ∧ d.depth ≤ 60 ∧ Q (.bl (PySem.W.dataLt e d)) H
theorem op_ltD {X : Cx} (hu : X.A.units + 64 < cLine) : OpR X (compareOp .Lt) (rLtD X.K) := by
  intro pins s σ H x y v u C I rx ry hq
  obtain ⟨d, e, hd, he, sd, se, hp, q⟩ := hq
  obtain ⟨toks1, r1⟩ := Dp.reads I d x v hd rx
  obtain ⟨toks2, r2⟩ := Dp.reads I e y u he ry
  exact PySem.W.lt_data r1 r2 sd se (by have := Nat.min_le_left d.depth e.depth; omega) ⟨.bl _, H, I, rfl, q⟩
theorem op_gtD {X : Cx} (hu : X.A.units + 64 < cLine) : OpR X (compareOp .Gt) (rGtD X.K) := by
  intro pins s σ H x y v u C I rx ry hq
  obtain ⟨d, e, hd, he, sd, se, hp, q⟩ := hq
  obtain ⟨toks1, r1⟩ := Dp.reads I d x v hd rx
  obtain ⟨toks2, r2⟩ := Dp.reads I e y u he ry
  exact PySem.W.gt_data r1 r2 sd se (by have := Nat.min_le_left d.depth e.depth; omega) ⟨.bl _, H, I, rfl, q⟩
theorem alikeAll_ints : ∀ xs ys : List Int, PySem.W.alikeAll (Di xs) (Di ys) = true
  | [], _ => by simp [PySem.W.alikeAll]
  | _ :: _, [] => by simp [PySem.W.alikeAll]
  | x :: xs, y :: ys => by
    show (PySem.W.alike (.int x) (.int y) && PySem.W.alikeAll (Di xs) (Di ys)) = true
    rw [alikeAll_ints xs ys]; rfl
theorem lt_ints : ∀ xs ys : List Int, PyProof.Rows.lexLt PyProof.Rows.itemOrd (PySem.W.keyToksAll (Di xs)) (PySem.W.keyToksAll (Di ys)) = HT.lexLt xs ys
  | [], [] => by decide
  | [], y :: ys => by
    show PyProof.Rows.lexLt PyProof.Rows.itemOrd [.inl 0] (.inl 1 :: _) = true
    rw [PySem.W.lex_atom (by decide)]
    decide
  | x :: xs, [] => by
    show PyProof.Rows.lexLt PyProof.Rows.itemOrd (.inl 1 :: _) [.inl 0] = false
    rw [PySem.W.lex_atom (by decide)]
    decide
  | x :: xs, y :: ys => by
    have ih := lt_ints xs ys
    show _ = if x = y then HT.lexLt xs ys else decide (x < y)
    by_cases h : x = y
    · subst h
      rw [if_pos rfl, ← ih]
      exact PySem.W.dataLt_all_yes (x := .int x) (y := .int x) rfl (by simp [PyData.eqv])
    · rw [if_neg h, ← PySem.W.dataLt_int x y]
      exact PySem.W.dataLt_all_no (x := .int x) (y := .int y) rfl (by simpa [PyData.eqv] using h)
theorem e_ltLL {K : PySem.W.Frag} {H : Hp} {Q : VK} {a b : Addr} {xs ys : List Int} (h1 : SqL K H a (xs.map V.int)) (h2 : SqL K H b (ys.map V.int)) (q : Q (.bl (HT.lexLt xs ys)) H) : rLtD K (.ref a) (.ref b) H Q :=
  ⟨_, _, .lst h1 (dpAll_ints xs), .lst h2 (dpAll_ints ys), alikeAll_ints xs ys, by simp, by show PyData.depthAll (Di xs) + 1 ≤ 60; rw [depthAll_ints]; decide, by
    rw [PySem.W.dataLt_list, lt_ints]; exact q⟩
/-! ### loops over rows of ints -/
theorem at_split {ns : List Int} {i : Nat} {x : V} (hx : (ns.map V.int)[i]? = some x) : ∃ y, x = .int y ∧ ns = ns.take i ++ y :: ns.drop (i + 1) ∧ ns.take (i + 1) = ns.take i ++ [y] := by
  rw [List.getElem?_map] at hx
  cases e : ns[i]? with
  | none => rw [e] at hx; cases hx
  | some y =>
    rw [e] at hx
    have e2 := (List.getElem?_eq_some_iff.mp e).2
    refine ⟨y, (Option.some.inj hx).symm, ?_, by rw [List.take_add_one, e]; rfl⟩
    rw [← e2, List.getElem_cons_drop, List.take_append_drop]
section
variable {K : PySem.W.Frag} {g : TG} {t : TS} {D : Ends} {σ : L2.St} {H : Hp} {tt : TT} {te : TE} {vs : List Nat} {Q : VK} {Da a : Addr} {ns : List Int}
theorem for_ints (Pv : List Int → L2.St → Hp → Prop) (h0 : Pv [] σ H) (hl : ∀ pre σ H, Pv pre σ H → SqL K H a (ns.map V.int))
    (hs : ∀ (pre : List Int) (x : Int) (post : List Int) σ H, ns = pre ++ x :: post → Pv pre σ H → g (.int x) σ H fun σ2 H2 => t { D with nx := Pv (pre ++ [x]), ct := Pv (pre ++ [x]), bk := D.nx } σ2 H2)
    (hd : ∀ σ H, Pv ns σ H → D.nx σ H) : ForB (Itl K a) g t D σ H := by
  refine for_list (xs := ns.map V.int) (fun i => Pv (ns.take i)) (by simpa using h0) (fun i σ H _ p => hl _ σ H p) (fun i x σ H hx p => ?_) (fun σ H p => ?_)
  · obtain ⟨y, rfl, e1, e2⟩ := at_split hx
    rw [e2]
    exact hs _ y _ σ H e1 p
  · rw [List.length_map, List.take_length] at p
    exact hd σ H p
theorem for_intsT (Pv : List Int → L2.St → Hp → Prop) (h0 : Pv [] σ H) (hl : ∀ pre σ H, Pv pre σ H → SqT K H a (ns.map V.int))
    (hs : ∀ (pre : List Int) (x : Int) (post : List Int) σ H, ns = pre ++ x :: post → Pv pre σ H → g (.int x) σ H fun σ2 H2 => t { D with nx := Pv (pre ++ [x]), ct := Pv (pre ++ [x]), bk := D.nx } σ2 H2)
    (hd : ∀ σ H, Pv ns σ H → D.nx σ H) : ForB (Itt K a) g t D σ H := by
  refine for_tup (xs := ns.map V.int) (fun i => Pv (ns.take i)) (by simpa using h0) (fun i σ H _ p => hl _ σ H p) (fun i x σ H hx p => ?_) (fun σ H p => ?_)
  · obtain ⟨y, rfl, e1, e2⟩ := at_split hx
    rw [e2]
    exact hs _ y _ σ H e1 p
  · rw [List.length_map, List.take_length] at p
    exact hd σ H p
theorem walk_enumT {xs : List V} : Walk (IteT K a) xs.length (fun H => SqT K H a xs) (YPair (fun i => some (.int (i : Nat))) (fun i => xs[i]?)) := by
  refine ⟨fun i _ hi q => ⟨xs, xs[i], q, by simp [hi]⟩,
    fun _ q => ⟨xs, q, Nat.le_refl _⟩, fun i H v H' _ q y => ?_⟩
  obtain ⟨T, x, g1, g2, g3, g4⟩ := y
  exact ⟨T, .int (i : Nat), x, g1, g2, g3, rfl, g4 xs q⟩
theorem for_enumI (Pv : List Int → L2.St → Hp → Prop) (h0 : Pv [] σ H) (hl : ∀ pre σ H, Pv pre σ H → SqL K H a (ns.map V.int))
    (hs : ∀ (pre : List Int) (x : Int) (post : List Int) (T : Addr) σ H, ns = pre ++ x :: post → Pv pre σ H → H T = none → g (.ref T) σ (upd H T (.tup [.int (pre.length : Nat), .int x])) fun σ2 H2 => t { D with nx := Pv (pre ++ [x]), ct := Pv (pre ++ [x]), bk := D.nx } σ2 H2)
    (hd : ∀ σ H, Pv ns σ H → D.nx σ H) : ForB (Ite K a) g t D σ H := by
  refine for_it (walk_enum (xs := ns.map V.int)) (fun i => Pv (ns.take i)) (by simpa using h0) (fun i σ H _ p => hl _ σ H p) (fun i x σ H H' hi p y => ?_) (fun σ H p => ?_)
  · obtain ⟨T, u, v, rfl, hT, rfl, hu, hv⟩ := y
    obtain ⟨z, rfl, e1, e2⟩ := at_split hv
    cases (Option.some.inj hu)
    rw [e2]
    have hl : (ns.take i).length = i := by rw [List.length_map] at hi; rw [List.length_take]; omega
    have q := hs (ns.take i) z _ T σ H e1 p hT
    rw [hl] at q
    exact q
  · rw [List.length_map, List.take_length] at p
    exact hd σ H p
theorem for_enumIT (Pv : List Int → L2.St → Hp → Prop) (h0 : Pv [] σ H) (hl : ∀ pre σ H, Pv pre σ H → SqT K H a (ns.map V.int))
    (hs : ∀ (pre : List Int) (x : Int) (post : List Int) (T : Addr) σ H, ns = pre ++ x :: post → Pv pre σ H → H T = none → g (.ref T) σ (upd H T (.tup [.int (pre.length : Nat), .int x])) fun σ2 H2 => t { D with nx := Pv (pre ++ [x]), ct := Pv (pre ++ [x]), bk := D.nx } σ2 H2)
    (hd : ∀ σ H, Pv ns σ H → D.nx σ H) : ForB (IteT K a) g t D σ H := by
  refine for_it (walk_enumT (xs := ns.map V.int)) (fun i => Pv (ns.take i)) (by simpa using h0) (fun i σ H _ p => hl _ σ H p) (fun i x σ H H' hi p y => ?_) (fun σ H p => ?_)
  · obtain ⟨T, u, v, rfl, hT, rfl, hu, hv⟩ := y
    obtain ⟨z, rfl, e1, e2⟩ := at_split hv
    cases (Option.some.inj hu)
    rw [e2]
    have hl : (ns.take i).length = i := by rw [List.length_map] at hi; rw [List.length_take]; omega
    have q := hs (ns.take i) z _ T σ H e1 p hT
    rw [hl] at q
    exact q
  · rw [List.length_map, List.take_length] at p
    exact hd σ H p
/-- [e for k in range(a, b, c)], e a function of the turn -/
theorem lc_map_rngC {lo c : Int} {n : Nat} {H0 : Hp} (hD : H0 Da = none) (hn : n ≤ 1000000) (f : Nat → V)
    (hs : ∀ (i : Nat) (H2 : Hp) (C : VK) (E : Hp → Prop), i < n → Same H0 H2 → (∀ H3, Same H2 H3 → C (f i) H3) →
      g (.int (lo + (i : Nat) * c)) (wipe σ vs) H2 fun σ2 H2 => wipe σ2 vs = wipe σ vs ∧ tYes σ2 H2 fun b H3 => if b = true then te σ2 H3 C else E H3)
    (hd : ∀ (H : Hp), Same H0 H → H Da = some (.lst ((List.range n).map f)) → Q (.ref Da) H) : LcB (Itc lo c n) g tYes te vs σ Da H0 Q := by
  refine lc_it walk_rangeC (fun i H2 => Same H0 H2 ∧ H2 Da = some (.lst ((List.range i).map f))) ⟨same_new hD, upd_same⟩ (fun _ _ _ _ => trivial) (fun i x H2 H' hi p y => ?_) (fun H2 p => hd H2 p.1 p.2)
  obtain ⟨rfl, rfl⟩ := y
  obtain ⟨k4, e4⟩ := p
  refine hs i _ _ _ hi k4 fun H3 k5 => ?_
  refine ⟨_, k5 _ _ e4, Nat.lt_of_le_of_lt (by simp; omega : _ ≤ 1000000) (by decide), Same.mut (k4.trans k5) hD, ?_⟩
  rw [upd_same, List.range_succ, List.map_append]
  rfl
end
theorem i_bneself {b : Bool} {A B : Prop} (h : B) : if (b != b) = true then A else B := by
  have e : (b != b) = false := by cases b <;> rfl
  rw [e]; exact i_F h
theorem i_beself {b : Bool} {A B : Prop} (h : A) : if (b == b) = true then A else B := by
  rw [beq_self_eq_true]; exact i_T h
/-! ### a list or a tuple -/
/-- a row of values, a list's or a tuple's -/
abbrev SqE (K : PySem.W.Frag) (H : Hp) (p : Addr) (xs : List V) : Prop := SqL K H p xs ∨ SqT K H p xs
theorem Same.seqE {K : PySem.W.Frag} {H H' : Hp} {a : Addr} {xs : List V} (e : Same H H') (h : SqE K H a xs) : SqE K H' a xs := by
  rcases h with h | h
  · exact .inl (e.seq h)
  · refine .inr ?_
    rcases h with (h | ⟨c9, h⟩) | h
    · exact .inl (.inl (e _ _ h))
    · exact .inl (.inr ⟨c9, e _ _ h⟩)
    · exact .inr h
theorem e_ixE {K : PySem.W.Frag} {H : Hp} {Q : VK} {p : Addr} {xs : List V} {i : Int} {v : V} (h : SqE K H p xs) (ha : atI xs i = some v) (q : Q v H) : rIxL K (.ref p) (.int i) H Q ∨ rIxT K (.ref p) (.int i) H Q := by
  rcases h with h | h
  · exact .inl (e_ixL h ha q)
  · exact .inr (e_ixT h ha q)
/-- a list of the turn's values, over a list -/
theorem lc_map_lstI {K : PySem.W.Frag} {g : TG} {te : TE} {vs : List Nat} {σ : L2.St} {Da a : Addr} {H0 : Hp} {Q : VK} {xs : List V} (hS : SqL K H0 a xs) (hD : H0 Da = none) (hn : xs.length ≤ 1000000) (f : Nat → V)
    (hs : ∀ (i : Nat) (x : V) (H2 : Hp) (C : VK) (E : Hp → Prop), xs[i]? = some x → Same H0 H2 → (∀ H3, Same H2 H3 → C (f i) H3) →
      g x (wipe σ vs) H2 fun σ2 H2 => wipe σ2 vs = wipe σ vs ∧ tYes σ2 H2 fun b H3 => if b = true then te σ2 H3 C else E H3)
    (hd : ∀ (H : Hp), Same H0 H → H Da = some (.lst ((List.range xs.length).map f)) → Q (.ref Da) H) : LcB (Itl K a) g tYes te vs σ Da H0 Q := by
  refine lc_list (xs := xs) (fun i H2 => Same H0 H2 ∧ H2 Da = some (.lst ((List.range i).map f))) ⟨same_new hD, upd_same⟩ (fun i H2 _ p => p.1.seq hS) (fun i x H2 hx p => ?_) (fun H2 p => hd H2 p.1 p.2)
  obtain ⟨k4, e4⟩ := p
  have hi := (List.getElem?_eq_some_iff.mp hx).1
  refine hs i x H2 _ _ hx k4 fun H3 k5 => ?_
  refine ⟨_, k5 _ _ e4, Nat.lt_of_le_of_lt (by rw [List.length_map, List.length_range]; omega : _ ≤ 1000000) (by decide), Same.mut (k4.trans k5) hD, ?_⟩
  rw [upd_same, List.range_succ, List.map_append]
  rfl
end Vf

namespace Vf
open PySem L2 PySem.Spec PyProof.Rows
/-- a plain tuple of pairs: made by tuple(list), or by an update -/
def PlT (H : Hp) (a : Addr) (xs : List V) : Prop := ∃ o : Obj, o.dict = none ∧ H a = some (.frz o (.tup xs))
theorem PlT.seq {K : PySem.W.Frag} {H : Hp} {a : Addr} {xs : List V} (h : PlT H a xs) : SqT K H a xs := by
  obtain ⟨o, _, e⟩ := h
  exact .inl (.inr ⟨o, e⟩)
theorem PlT.same {H H' : Hp} {a : Addr} {xs : List V} (h : PlT H a xs) (e : Same H H') : PlT H' a xs := by
  obtain ⟨o, d, q⟩ := h
  exact ⟨o, d, e _ _ q⟩
theorem uvs_of {X : Cx} {pins : List (Addr × Obj)} {σ : L2.St} {H : Hp} {s : Shared} (I : Inv X pins σ H s) : ∀ {ps : List Addr} {kvs : List (Key × V)}, Paired (fun p kv => SqT X.K H p [kV kv.1, kv.2]) ps kvs →
    ∃ (prs : List (Key × Value)) (uvs : List (Value × Value)), KV kvs prs ∧ prs.length = ps.length ∧ uvs.length = ps.length ∧
      ∀ (j : Nat) (u y : Value), uvs[j]? = some (u, y) → ∃ (b : Addr) (k : Key), ps[j]? = some b ∧ PairAt s.heap b u y ∧ prs[j]? = some (k, y) ∧ keyIs k u = true
  | _, _, .nil => ⟨[], [], .nil, rfl, rfl, fun j u y e => by simp at e⟩
  | _, _, .cons (a := p) (b := kv) h t => by
    obtain ⟨prs, uvs, r, l1, l2, q⟩ := uvs_of I t
    obtain ⟨its, rv, ht, _⟩ := I.tuple h
    obtain ⟨u, y, rfl, ru, ry⟩ := vals2 rv
    refine ⟨(kv.1, y) :: prs, (u, y) :: uvs, .cons ⟨rfl, ry⟩ r, by simp [l1], by simp [l2], fun j u' y' e => ?_⟩
    cases j with
    | zero =>
      cases (Option.some.inj e)
      exact ⟨p, kv.1, rfl, .inl ht, rfl, kV_is (P := X.prog) (w := X.w) ru⟩
    | succ j =>
      obtain ⟨b, k, e1, e2, e3, e4⟩ := q j u' y' (by simpa using e)
      exact ⟨b, k, by simpa using e1, e2, by simpa using e3, e4⟩
theorem refs_of : ∀ {ps : List Addr} {us : List Value}, Vals (ps.map V.ref) us → us = ps.map Value.ref
  | [], _, .nil => rfl
  | p :: ps, _, .cons h t => by
    cases h
    rw [refs_of t]
    rfl
/-- dict(t), t a plain tuple of pairs -/
theorem call_dictPT {X : Cx} (hcalm : X.calm = true) : CallR X (.type "dict") (fun xs H Q => ∃ (a : Addr) (ps : List Addr) (kvs : List (Key × V)), xs = [.ref a] ∧ PlT H a (ps.map V.ref) ∧ Paired (fun p kv => SqT X.K H p [kV kv.1, kv.2]) ps kvs ∧
    ∀ p, H p = none → Q (.ref p) (upd H p (.dK (mergeK [] kvs)))) := by
  intro pins s σ H xs us Q I r q
  obtain ⟨a, ps, kvs, rfl, ⟨o, hd, ea⟩, hp, q⟩ := q
  obtain ⟨u, rfl, rx⟩ := vals1 r
  cases rx
  obtain ⟨ho, hz, its, rv, o2, ho2, hc, n, hdat⟩ := (show ObjOk X.prog X.w H s.heap a (.frz o (.tup (ps.map V.ref))) from I.hok a _ ea)
  rw [ho] at ho2
  cases (Option.some.inj ho2)
  have ei := refs_of rv
  subst ei
  rw [List.length_map] at hz
  obtain ⟨prs, uvs, rel, l1, l2, hq⟩ := uvs_of I hp
  have ok : PlainSeq "tuple" s.heap a (ps.map Value.ref).toArray ∧ PairItems s.heap (ps.map Value.ref).toArray (fun j => ps.getD j 0) uvs := by
    refine ⟨⟨o, n, ho, hc, hd, hdat⟩, by simp [l2], fun j k v hj => ?_⟩
    obtain ⟨b, key, e1, e2, _, _⟩ := hq j k v hj
    have e5 : ps.getD j 0 = b := by rw [List.getD_eq_getElem?_getD, e1]; rfl
    show _ ∧ PairAt s.heap (ps.getD j 0) k v
    rw [e5]
    exact ⟨by simp [e1], e2⟩
  refine PySem.call_dict_pairs (knd := mixKind X.prog X.w) (kvs := prs) (PairArg.tuple a (ps.map Value.ref).toArray (fun j => ps.getD j 0) uvs) (I.ok.hd hcalm) ok ⟨by rw [l1, l2], fun i key v hr => ?_⟩ (by rw [l2]; exact hz) fun h' tk hd' k => ?_
  · obtain ⟨b, k, _, _, e3, e4⟩ := hq i key v hr
    exact ⟨k, e3, e4⟩
  · have hm : (s.heap.objs.size == sysModules) = false := beq_eq_false_iff_ne.mpr (Nat.ne_of_gt I.big)
    have hlen : (mergeK [] kvs).length ≤ sizeLine := by
      have h1 := length_mergeK kvs []
      have h2 := rel.length
      rw [List.length_nil] at h1
      omega
    exact ⟨.ref s.heap.objs.size, upd H s.heap.objs.size (.dK (mergeK [] kvs)), I.laid (t' := tk) (fun b ob e => k b ob (by simp) e) (Nat.le_refl _) (show ObjOk X.prog X.w _ _ _ (.dK (mergeK [] kvs)) from ⟨hlen, hm, merged [] prs, KV.merge rel .nil, hd'⟩), rfl, q _ (I.hok.fresh (Nat.le_refl _))⟩
/-- tuple(l), l a list: a plain tuple -/
theorem call_tupleF {X : Cx} : CallR X (.type "tuple") (fun xs H Q => ∃ p ys, xs = [.ref p] ∧ SqL X.K H p ys ∧ ∀ l H', H l = none → Same H H' → PlT H' l ys → (∀ b, b ≠ l → H' b = H b) → Q (.ref l) H') := by
  intro pins s σ H xs us Q I r q
  obtain ⟨p, ys, rfl, hq, q⟩ := q
  obtain ⟨u, rfl, rx⟩ := vals1 r
  cases rx
  obtain ⟨its, rv, pl, hz⟩ := I.list hq
  have hlen := rv.length
  refine call_tuple_list pl.isList (fun h' kp => ?_) (by simp only [List.size_toArray] <;> omega)
  have J1 : Inv X pins σ H { s with heap := h' } := I.kept (t' := s.toks) kp
  have hfr := J1.hok.fresh (Nat.le_refl _)
  have J2 : Inv X pins σ (upd H h'.objs.size (.frz { cls := .type "tuple", data := .seq its.toArray } (.tup ys))) { s with heap := h'.push { cls := .type "tuple", data := .seq its.toArray } } :=
    J1.laid (t' := s.toks) (fun b ob e => Heap.get?_push_of_some _ e) (Nat.le_refl _) ⟨Heap.get?_push_size _ rfl, hz, its, rv, IsTup.new _ _⟩
  exact ⟨.ref h'.objs.size, _, J2, rfl, q _ _ hfr (same_new hfr) ⟨_, rfl, upd_same⟩ fun b hb => upd_ne hb⟩
theorem tupFK (K : PySem.W.Frag) {X : Cx} (hK : X.K = K := by rfl) : CallR X (.type "tuple") (fun xs H Q => ∃ p ys, xs = [.ref p] ∧ SqL K H p ys ∧ ∀ l H', H l = none → Same H H' → PlT H' l ys → (∀ b, b ≠ l → H' b = H b) → Q (.ref l) H') := hK ▸ call_tupleF
end Vf

namespace PySem
namespace ErrX
open PySem.W PySem.Calls PyProof.Rows PySem.HandSPX
/-! ### the text of __init__ -/
def iA (p1 p2 : Pos) : Arguments := { posonlyargs := [], args := [{ arg := "self", annotation := none, pos := p1 }, { arg := "place", annotation := none, pos := p2 }], vararg := none, kwonlyargs := [], kw_defaults := [], kwarg := none, defaults := [] }
def iB (q1 q2 q3 q4 : Pos) : List Stmt := [.Assign [.Attribute (.Name "self" q1) "place" q2] (.Name "place" q3) q4]
def iS : Scope := { kind := .function, names := [(PySem.Str.ofString "self", .local), (PySem.Str.ofString "place", .local)], isGenerator := false, isCoroutine := false, more := [] }
/-- what the written part says of Low, at C, and of its __init__, at fI -/
structure ErrTxt (K : Frag) (mg : Str → Option Value) (x : Str) (C fI : Addr) : Prop where
  gC : mg x = some (.ref C)
  cls : ∃ nm q N bs bm sn sub ab col dd k0 k1 k2 k3 k5, K.lookup C = some (excClassObj nm q C N bs bm true sn sub ab col dd k0 k1 k2 k3 k5 "ValueError.__new__") ∧ refsVE bm = true
  sa : findIn K (.ref C) "__setattr__" = some (some (.builtin "object.__setattr__"))
  ga : findIn K (.ref C) "__getattribute__" = some (some (.builtin "BaseException.__getattribute__"))
  gg : findIn K (.ref C) "__getattr__" = some none
  noN : findIn K (.ref C) "place" = some none
  iC : findIn K (.ref C) "__init__" = some (some (.ref fI))
  tC : typeIn K (.ref fI) = some (.type "function")
  kC : keepIn K (.ref C) = true
  exC : subIn K (.ref C) (.type "BaseException") = some true
  tyC : typeIn K (.ref C) = some (.type "type")
  hdC : hasDictIn K C = true
  te : exmOne K (.ref C) (.ref C) = some true
  fn : ∃ (oc : Value) (od : Option Addr) (kV doc pm : Value) (an : Option Addr) (cdv ct : Value) (osl : Array (Option Value)) (p1 p2 q1 q2 q3 q4 : Pos),
    K.lookup fI = some ⟨oc, od, .func (fnOf "__init__" "FolderkinError.__init__" (iA p1 p2) (iB q1 q2 q3 q4) iS .none kV doc pm an cdv ct), osl⟩ ∧ codeIn K cdv "FolderkinError.__init__" = true
theorem one_size (v : Value) : [v].length ≤ sizeLine := by
  rw [sizeLine_eq]
  exact (by decide : 1 ≤ 16777216)
theorem kept_but {K : Frag} {h h' : Heap} {x : Addr} (X : K.In h) (hx : K.lookup x = none) (k : ∀ b o, b ≠ x → h.get? b = some o → h'.get? b = some o) : K.In h' := fun a o e =>
  k a o (fun z => by rw [z, hx] at e; cases e) (X a o e)
theorem ldC {M : Model} {s : Shared} {name : Str} {scope : Scope} {L a : Addr} {cd : Value} {m : Str → Option Value} {x : Str} {pos : Pos} {v : Value} {Q : Value → Shared → Prop} {A : Around} {E : Value → Shared → Prop} (hn : s.heap.Ns L m) (hv : m x = some v) (h : Q v s)
    (hk : scope.kind = .function := by rfl) (hl : (envOfC name scope L a cd).kindOf x = some .local := by rfl) (hd : (x == ("__debug__" : Str)) = false := by decide) :
    wpAny M A (eval (.Name x pos) (envOfC name scope L a cd)) Q E s := wpAny_Name (wpAny_loadName_local hk hl hn hv h) hd
/-- what __init__ leaves of a fresh exception at x -/
structure InitEnd (h h' : Heap) (x C dx t1 : Addr) (v : Value) : Prop where
  keep : ∀ b o, b ≠ x → h.get? b = some o → h'.get? b = some o
  obj : h'.get? x = some { cls := .ref C, dict := some dx, data := .fields #[.ref t1, .none, .none, .none, .bool false, .none] }
  dbig : h.objs.size ≤ dx
  dne : dx ≠ x
  ns : h'.Ns1 dx (fun y => if y = "place" then some v else none)
/-- a made Low -/
structure OwnMade (h h' : Heap) (e C d : Addr) (v : Value) : Prop where
  keep : ∀ b o, h.get? b = some o → h'.get? b = some o
  new : h.objs.size ≤ e
  obj : ∃ oe vs, h'.get? e = some oe ∧ oe.cls = .ref C ∧ oe.dict = some d ∧ oe.data = .fields vs ∧ vs[1]? = some .none
  dbig : h.objs.size ≤ d
  dne : d ≠ e
  ns : h'.Ns1 d (fun y => if y = "place" then some v else none)
section
variable {prog : Program} {w : World} {A : Around} {E : Value → Shared → Prop} {R : Result → Shared → Prop} {s : Shared} {K : Frag} {mg : Str → Option Value} {C fI : Addr}
theorem err_init (T : ErrTxt K mg nmx C fI) {x t0 : Addr} {v : Value} (X : K.In s.heap) (hlim : s.heap.NoLimit) (hx : s.heap.get? x = some (excO C t0)) (hnx : K.lookup x = none) (hroom : A.depth < recursionLimit)
    (hq : ∀ h' tk dx, InitEnd s.heap h' x C dx t0 v → R (.ok (.ret .none)) { s with heap := h', toks := tk }) :
    codeAny (model prog w) A (.call (.ref fI) ⟨[.ref x, v], []⟩) R s := by
  obtain ⟨oc, od, kV, doc, pm, an, cdv, ct, osl, p1, p2, q1, q2, q3, q4, ho, hcd⟩ := T.fn
  obtain ⟨nm, q, N, bs, bm, sn, sub, ab, col, dd, k0, k1, k2, k3, k5, hC, hbm⟩ := T.cls
  have hcl : clsIn K C = some { name := nm, bases := bs, mro := .ref C :: bm, ns := N, qualname := q, hasDict := true, slotNames := sn, subclasses := sub, abstract := ab, collection := col, hasDel := false } := by unfold clsIn; rw [hC] <;> rfl
  refine Att.call_fn (binds := [("self", .ref x), ("place", v)]) X hlim ho hcd hroom (BindsTo.of_eq (by first | rfl | with_unfolding_all rfl)) (by first | rfl | decide | with_unfolding_all rfl) (fun s₁ IC => ?_) rfl rfl rfl
  obtain ⟨h₁, tk₁, rfl⟩ := IC.toInCall.same
  have k : ∀ b o, s.heap.get? b = some o → h₁.get? b = some o := IC.toInCall.keep
  have hn := IC.toInCall.ns
  have hxL : s.heap.objs.size ≠ x := Nat.ne_of_gt (Heap.lt_size hx)
  have X₁ : K.In h₁ := X.keeps k
  have hx₁ := k _ _ hx
  -- self.by = by
  show wpAny _ _ (execs _ _) _ _ _
  refine wpAny_execs_cons (plainObj_wpAny_Assign_Attribute ?_)
  refine ldC (v := v) hn (by first | rfl | with_unfolding_all rfl | kernel_rfl) (ldC (v := .ref x) hn (by first | rfl | with_unfolding_all rfl | kernel_rfl) ?_)
  refine set_plain X₁ (ox := excO C t0) (od := none) ⟨hx₁, rfl, rfl, trivial⟩ T.sa ?_
  refine exc_osa X₁ hx₁ hcl (show refsVE (.ref C :: bm) = true from hbm) rfl T.noN (fun h₃ tk₃ dx k₃ dn dne hx₃ hn₃ => ?_)
  show wpAny _ _ (execs _ _) _ _ _
  have z : s.heap.objs.size < h₁.objs.size := hn.lt
  exact wpAny_execs_nil (hq h₃ tk₃ dx ⟨fun b o hb e => k₃ b o hb (k b o e), hx₃, Nat.le_of_lt (Nat.lt_of_lt_of_le z dn), dne, hn₃⟩)
theorem err_made (T : ErrTxt K mg nmx C fI) {v : Value} (X : K.In s.heap) (hlim : s.heap.NoLimit) (hroom : A.depth + 1 < recursionLimit)
    (hq : ∀ h' tk e d, OwnMade s.heap h' e C d v → R (.ok (.ret (.ref e))) { s with heap := h', toks := tk }) :
    codeAny (model prog w) A (.call (.ref C) ⟨[v], []⟩) R s := by
  obtain ⟨nm, q, N, bs, bm, sn, sub, ab, col, dd, k0, k1, k2, k3, k5, hC, hbm⟩ := T.cls
  obtain ⟨hp, g, dr, tk, os⟩ := s
  have k : ∀ b o, hp.get? b = some o → ((hp.push (kdv_tup [v])).push (excO C hp.objs.size)).get? b = some o := fun b o e => Heap.get?_push_of_some _ (Heap.get?_push_of_some _ e)
  have hget : ((hp.push (kdv_tup [v])).push (excO C hp.objs.size)).get? (hp.objs.size + 1) = some (excO C hp.objs.size) := by heap_get
  have hnx : K.lookup (hp.objs.size + 1) = none := by
    cases e : K.lookup (hp.objs.size + 1) with
    | none => rfl
    | some o =>
      have z : hp.get? (hp.objs.size + 1) = some o := X _ _ e
      exact absurd (Nat.lt_of_succ_lt (Heap.lt_size z)) (Nat.lt_irrefl _)
  refine call_own F.excBase_ValueError (fun X => refsVE_contains X bm hbm) (X _ _ hC) (looks_findIn X T.iC) (fun self => bind_fn X self T.tC) (one_size v) ?_
  refine err_init (s := ⟨(hp.push (kdv_tup [v])).push (excO C hp.objs.size), g, dr, tk, os⟩) T (X.keeps k) (hlim.keeps k) hget hnx ?_ fun h' tk' dx ⟨k', hx, dn, dne, hns⟩ => ?_
  · show A.depth + 1 < recursionLimit
    exact hroom
  · have old : ∀ b o, hp.get? b = some o → h'.get? b = some o := fun b o e => k' b o (Nat.ne_of_lt (Nat.lt_succ_of_lt (Heap.lt_size e))) (k b o e)
    have z : hp.objs.size + 1 + 1 ≤ dx := by
      first
        | (simpa only [Heap.size_push] using dn)
        | exact dn
        | (have q := dn; rw [Heap.size_push, Heap.size_push] at q; exact q)
    exact ⟨rfl, hq h' tk' (hp.objs.size + 1) dx ⟨old, Nat.le_succ _, ⟨_, _, hx, rfl, rfl, rfl, rfl⟩, Nat.le_trans (Nat.le_trans (Nat.le_succ _) (Nat.le_succ _)) z, dne, hns⟩⟩
end
end ErrX
end PySem
namespace L2
open PySem PySem.Spec PyProof.Rows
theorem relO_plc {v : V} {v' : Value} (r : RelV v v') (f : Str) : RelO (List.lookup f [(("place" : Str), v)]) (if f = "place" then some v' else none) := by
  by_cases hw : f = "place"
  · subst hw
    rw [if_pos rfl]
    have q : List.lookup ("place" : Str) [(("place" : Str), v)] = some v := by simp [List.lookup]
    rw [q]
    exact r
  · rw [if_neg hw]
    have qw : (f == ("place" : Str)) = false := by simpa using hw
    have q2 : List.lookup f [(("place" : Str), v)] = none := by simp [List.lookup, qw]
    rw [q2]
    trivial
section
variable {X : Cx} {C fI : Addr}
/-- Low(e) -/
def tMkErr (C : Addr) (ta : TA) : St → Hp → XK → Prop := fun σ H Q => ta σ H fun vs H1 => ∃ v, vs = [v] ∧ ∀ d, H1 d = none → Q (.ref C) (some d) (upd H1 d (.xd [(("place" : Str), v)]))
theorem pmk_err {a : Expr} {ta : TA} {p pos : Pos} {k : Nat} (T : PySem.ErrX.ErrTxt X.K X.mg nmx C fI) (hr : Room k X.A) (ha : PA X [a] ta) (hg : Gl X nmx := by rfl)
    (he : starEach (a :: []) X.env = (false, eval a X.env) :: starEach [] X.env := by rfl) (hpl : (backTo pos (starEach [] X.env)).any (·.1) = false := by rfl) (hdb : (nmx == ("__debug__" : Str)) = false := by decide) :
    PMk X (.Call (.Name nmx p) [a] [] pos) (tMkErr C ta) := by
  intro pins s σ H Q I h
  refine wpAny_Call_Name_kw (ld_glob I hg T.gC ?_ hdb)
  refine PySem.W.callWith_K (h₀ := X.base) I.ok.mod.kin T.kC (thn (ha.run pos pins s σ H _ I h) fun us s1 hh => ?_) he hpl
  obtain ⟨vs, H1, I1, r1, v, ev, q1⟩ := hh
  subst ev
  refine ⟨I1.kIn, ?_⟩
  cases r1 with
  | cons rv rn =>
    rename_i v' us'
    cases rn
    show wpAny _ _ (call (.ref C) [v']) _ _ _
    have hlim := I1.nolimit
    obtain ⟨hp, g, dr, tk, os⟩ := s1
    refine wpAny_call (PySem.ErrX.err_made T I1.kIn hlim (by have := hr.dp; omega) fun h' tk' e d M => ?_)
    show MkP X pins σ Q (.ref e) ⟨h', g, dr, tk', os⟩
    obtain ⟨oe, fv, hoe, hc, hd, hdat, h1⟩ := M.obj
    have hns := M.ns
    obtain ⟨G', g1, g2⟩ := restrict h' fun b => decide (b ≠ e)
    have gk : ∀ b, b ≠ e → G'.get? b = h'.get? b := fun b hb => g1 b (decide_eq_true hb)
    have ge : G'.get? e = none := g2 e (by simp)
    have old : ∀ b o, hp.get? b = some o → G'.get? b = some o := fun b o q => (gk b (Nat.ne_of_lt (Nat.lt_of_lt_of_le (Heap.lt_size q) M.new))).trans (M.keep b o q)
    have ob : ObjOk X.prog X.w (upd H1 d (.xd [(("place" : Str), v)])) G' d (.xd [(("place" : Str), v)]) :=
      ⟨_, hns.at (fun o q => (gk d M.dne).trans q), fun f => relO_plc rv f⟩
    have J : Inv X pins σ (upd H1 d (.xd [(("place" : Str), v)])) ⟨G', g, dr, tk', os⟩ := I1.laid (t' := tk') old M.dbig ob
    refine ⟨e, oe, fv, ⟨G', g, dr, tk', os⟩, _, .ref C, some d, rfl, J, fun b o q => ?_, ge, hoe, ⟨hc, hd⟩, hdat, h1, ?_, rfl, I1.bare, raises_own T.exC T.tyC, q1 d (I1.hok.fresh M.dbig)⟩
    · by_cases hb : b = e
      · have q' : G'.get? b = some o := q
        rw [hb, ge] at q'; cases q'
      · exact (gk b hb).symm.trans q
    · rw [upd_ne (Ne.symm M.dne)]
      exact I1.hok.fresh M.new
/-- raise Low(e) -/
def tRaiseErr (C : Addr) (W : WX) (ta : TA) : TS := fun _ σ H => tMkErr C ta σ H fun cls d H' => W cls d σ H'
theorem ps_raiseErr {a : Expr} {ta : TA} {W : WX} {p pos pos2 : Pos} {k : Nat} (hc : X.calm = true) (T : PySem.ErrX.ErrTxt X.K X.mg nmx C fI) (hr : Room k X.A) (tk : Takes X W) (ha : PA X [a] ta) (hg : Gl X nmx := by rfl)
    (he : starEach (a :: []) X.env = (false, eval a X.env) :: starEach [] X.env := by rfl) (hpl : (backTo pos (starEach [] X.env)).any (·.1) = false := by rfl) (hdb : (nmx == ("__debug__" : Str)) = false := by decide) :
    PS X (.Raise (some (.Call (.Name nmx p) [a] [] pos)) none pos2) (tRaiseErr C W ta) := ps_raise hc tk (pmk_err T hr ha hg he hpl hdb)
/-- low.by, low the exception that the suite holds (at a; its class cls, its dict d) -/
def tPlcErr (C : Addr) (a : Addr) (cls : Value) (d : Option Addr) (te : TE) : TE := fun σ H Q => te σ H fun x H1 => x = .ref a ∧ cls = .ref C ∧ ∃ (dd : Addr) (v : V), d = some dd ∧ H1 dd = some (.xd [(("place" : Str), v)]) ∧ Q v H1
theorem pe_plcErr {a : Addr} {oe : Obj} {cls : Value} {d : Option Addr} {pn : List (Addr × Obj)} {e : Expr} {te : TE} {pos : Pos} (T : PySem.ErrX.ErrTxt X.K X.mg nmx C fI) (hz : Zc cls d oe) (hf : ∃ vs, oe.data = .fields vs) (he : PE (X.suite a ((a, oe) :: pn)) e te)
    (hb : attributeBase e "place" X.env (eval e X.env) = eval e X.env := by rfl) :
    PE (X.suite a ((a, oe) :: pn)) (.Attribute e "place" pos) (tPlcErr C a cls d te) := by
  refine ⟨fun pins s σ H Q I h => ?_⟩
  refine attr_of hb (thn (he.run pins s σ H _ I h) fun u s1 hh => ?_)
  obtain ⟨x, H1, I1, rx, ex, ec, dd, v, ed, ea, q⟩ := hh
  subst ex
  obtain rfl : u = Value.ref a := rx
  subst ec
  subst ed
  obtain ⟨ha, _⟩ := I1.pin (a, oe) (List.mem_append_left _ List.mem_cons_self)
  obtain ⟨vs, hd⟩ := hf
  have hx : ObjOk X.prog X.w H1 s1.heap dd (.xd [(("place" : Str), v)]) := I1.hok dd _ ea
  obtain ⟨mA, hns, hr⟩ := hx
  obtain ⟨od, ho, hl⟩ := lookIn_ns hns
  have l : List.lookup ("place" : Str) [(("place" : Str), v)] = some v := by simp [List.lookup]
  obtain ⟨u, hu, ru⟩ := RelO.some_of (v := v) (o := mA "place") (by rw [← l]; exact hr "place")
  have J : PySem.W.InstAt s1.heap a oe C (some od) := ⟨ha, hz.1, by unfold PySem.W.notCls; rw [hd] <;> rfl, by rw [hz.2]; exact ho⟩
  exact HandSPX.exc_get I1.kIn J T.ga T.gg T.exC (PySem.W.findObj_own T.hdC T.noN rfl (by rw [hl, hu])) (handed_of ru) ⟨v, H1, I1.tok _, ru, q⟩
end
end L2

namespace Vf
open PySem L2 PySem.Spec PyProof.Rows
/-- isinstance(e, c), e the error that the suite holds (at a; its class cls, its own dict d) -/
def rIsP (K : PySem.W.Frag) (D a : Addr) (cls : Value) (d : Option Addr) : List V → Hp → VK → Prop := fun xs H Q => cls = .ref D ∧ ∃ (dd : Addr) (pl c : V) (cv : Value) (b : Bool),
  d = some dd ∧ H dd = some (.xd [(("place" : Str), pl)]) ∧ xs = [.ref a, c] ∧ (∀ u, RelV c u → u = cv) ∧ PySem.W.kitOne K (.ref D) cv = some b ∧ Q (.bl b) H
theorem call_isP {X : Cx} {a D : Addr} {oe : Obj} {cls : Value} {d : Option Addr} {pn : List (Addr × Obj)} (C : ExcC X.K D) (hz : Zc cls d oe) (hf : ∃ vs, oe.data = .fields vs) : CallR (X.suite a ((a, oe) :: pn)) (.builtin "isinstance") (rIsP X.K D a cls d) := by
  intro pins s σ H xs us Q I r h
  obtain ⟨rfl, dd, pl, c, cv, b, rfl, ea, rfl, hcv, e, q⟩ := h
  obtain ⟨u1, u2, rfl, r1, r2⟩ := vals2 r
  cases (show u1 = Value.ref a from r1)
  have e2 := hcv _ r2
  subst e2
  obtain ⟨ha, _⟩ := I.pin (a, oe) (List.mem_append_left _ List.mem_cons_self)
  obtain ⟨vs, hd⟩ := hf
  obtain ⟨mA, hns, _⟩ := (show ObjOk X.prog X.w H s.heap dd (.xd [(("place" : Str), pl)]) from I.hok dd _ ea)
  obtain ⟨od, ho, _⟩ := lookIn_ns hns
  have J : PySem.W.InstAt s.heap a oe D (some od) := ⟨ha, hz.1, by unfold PySem.W.notCls; rw [hd] <;> rfl, by rw [hz.2]; exact ho⟩
  have hcl : (PySem.W.clsIn X.K D).isSome = true := by
    have h1 := C.hd
    unfold PySem.W.hasDictIn at h1
    cases h2 : PySem.W.clsIn X.K D with
    | none => rw [h2] at h1; cases h1
    | some cd => rfl
  exact PySem.W.kia_one (PySem.W.kitx_exc hcl C.hg C.hk C.hs C.ha C.hn C.ht C.hm) I.kIn J e (fun z => nomatch z) fun tk => ⟨.bl b, H, I.kept (t' := tk) fun _ _ z => z, rfl, q⟩
end Vf

namespace Vf
open PySem L2 PySem.Spec PyProof.Rows He
/-! ### the head's facts, and further ones that are yes or no -/
abbrev AlX : Type := AlD × Bool
def obsX (fa : List Fa) (fn : List DefD) (ex : List (PySem.W.Frag → Bool)) (K : PySem.W.Frag) : AlX := (obsD fa fn K, ex.all fun p => p K)
def obsXG (n : Nat) (fa : List Fa) (fn : List DefD) (ex : List (PySem.W.Frag → Bool)) (g : Addr → Option Obj) : AlX := obsX fa fn ex (frG g (asD g n))
def SaysX (fa : List Fa) (fn : List DefD) (ex : List (PySem.W.Frag → Bool)) (K : PySem.W.Frag) : Prop := SaysD fa fn K ∧ (ex.all fun p => p K) = true
def hookX (n : Nat) (fa : List Fa) (fn : List DefD) (ex : List (PySem.W.Frag → Bool)) : PySem.W.Hook where
  α := AlX
  obs := fun s => obsXG n fa fn ex s.heap.get?
  val := fun _ => (valD fn, true)
  says := fun _ h => ∃ K : PySem.W.Frag, K.In h ∧ SaysX fa fn ex K
  of := fun _ _ e => ⟨_, frG_in, congrArg (fun z : AlX => z.1) e, congrArg (fun z : AlX => z.2) e⟩
  keeps := fun _ _ _ ⟨K, hK, c⟩ k => ⟨K, PySem.W.Frag.In.keeps hK k, c⟩
theorem obsXG_eq {n : Nat} {fa : List Fa} {fn : List DefD} {ex : List (PySem.W.Frag → Bool)} {g : Addr → Option Obj} {s : Shared} (h : ∀ a, g a = s.heap.get? a) : obsXG n fa fn ex g = (hookX n fa fn ex).obs s := by
  have e : g = s.heap.get? := funext h
  rw [e] <;> rfl
theorem SaysX.more {fa : List Fa} {fn : List DefD} {ex : List (PySem.W.Frag → Bool)} {K : PySem.W.Frag} (c : SaysX fa fn ex K) (i : Nat) {p : PySem.W.Frag → Bool} (h : ex[i]? = some p := by rfl) : p K = true :=
  List.all_eq_true.mp c.2 p (List.mem_of_getElem? h)
/-! ### an own error, over ValueError through own classes, with __init__ from one of them -/
def errB (K : PySem.W.Frag) (C : Addr) : Bool := match K.lookup C with
  | some ⟨.type "type", _, .cls cd, sl⟩ => (match cd.mro, sl.toList with
    | .ref D :: bm, [_, _, _, _, some (.builtin n), _] => D == C && (n == "ValueError.__new__" && (!cd.hasDel && (cd.hasDict && PySem.HandSPX.refsVE bm)))
    | _, _ => false)
  | _ => false
theorem errB_ok {K : PySem.W.Frag} {C : Addr} (q : errB K C = true) : ∃ nm qn N bs bm sn sub ab col dd k0 k1 k2 k3 k5, K.lookup C = some (excClassObj nm qn C N bs bm true sn sub ab col dd k0 k1 k2 k3 k5 "ValueError.__new__") ∧ PySem.HandSPX.refsVE bm = true := by
  unfold errB at q
  split at q
  · rename_i dd cd sl ho
    split at q
    · rename_i D bm k0 k1 k2 k3 n k5 hm hs
      simp only [Bool.and_eq_true, beq_iff_eq, Bool.not_eq_true'] at q
      obtain ⟨rfl, rfl, hdel, hdi, hv⟩ := q
      obtain ⟨nm, bs, mro, ns, qn, hd, sn, sub, ab, col, del⟩ := cd
      dsimp only at hm hdel hdi
      subst hm hdel hdi
      obtain ⟨l⟩ := sl
      simp only at hs
      subst hs
      exact ⟨nm, qn, ns, bs, bm, sn, sub, ab, col, dd, k0, k1, k2, k3, k5, ho, hv⟩
    · cases q
  · cases q
def errAll (x bx : Str) (K : PySem.W.Frag) : Bool :=
  errB K (ga K x) && (eqO (PySem.W.findIn K (.ref (ga K x)) "__setattr__") (some (some (.builtin "object.__setattr__"))) && (eqO (PySem.W.findIn K (.ref (ga K x)) "__getattribute__") (some (some (.builtin "BaseException.__getattribute__"))) &&
  (eqO (PySem.W.findIn K (.ref (ga K x)) "__getattr__") (some none) && (eqO (PySem.W.findIn K (.ref (ga K x)) "place") (some none) && (eqO (PySem.W.findIn K (.ref (ga K x)) "__init__") (some (some (.ref (ma K (ga K bx) "__init__")))) &&
  (decide (PySem.W.typeIn K (.ref (ma K (ga K bx) "__init__")) = some (.type "function")) && (PySem.W.keepIn K (.ref (ga K x)) && (decide (PySem.W.subIn K (.ref (ga K x)) (.type "BaseException") = some true) && (decide (PySem.W.typeIn K (.ref (ga K x)) = some (.type "type")) &&
  (PySem.W.hasDictIn K (ga K x) && (decide (PySem.W.exmOne K (.ref (ga K x)) (.ref (ga K x)) = some true) && (decide (PySem.W.exmOne K (.ref (ga K x)) (.ref (ga K bx)) = some true) && (eqO (PySem.W.findIn K (.ref (ga K x)) "__class__") (some (some (.builtin "object.__class__"))) &&
  (eqO (PySem.W.specialIn K (.builtin "object.__class__") "__get__") (some (some (.builtin "getset_descriptor.__get__"))) && (decide (PySem.W.takesIn K (.builtin "object.__class__") = some true) && (decide (PySem.W.mroIn K (ga K x) (.type "object") = some true) &&
  (decide (PySem.W.kitOne K (.ref (ga K x)) (.ref (ga K x)) = some true) && (decide (PySem.W.kitOne K (.ref (ga K x)) (.ref (ga K bx)) = some true) && decide (PySem.W.kitOne K (.ref (ga K x)) (.type "ValueError") = some true)))))))))))))))))))
structure ErrAll (K : PySem.W.Frag) (mg : Str → Option Value) (x bx : Str) : Prop where
  er : PySem.ErrX.ErrTxt K mg x (ga K x) (ma K (ga K bx) "__init__")
  gB : mg bx = some (.ref (ga K bx))
  ec : ExcC K (ga K x)
  xb : PySem.W.exmOne K (.ref (ga K x)) (.ref (ga K bx)) = some true
  ii : PySem.W.kitOne K (.ref (ga K x)) (.ref (ga K x)) = some true
  ib : PySem.W.kitOne K (.ref (ga K x)) (.ref (ga K bx)) = some true
  iv : PySem.W.kitOne K (.ref (ga K x)) (.type "ValueError") = some true
theorem errAll_ok {K : PySem.W.Frag} {h : Heap} {mg : Str → Option Value} {x bx : Str} {fd : FuncData} {p1 p2 q1 q2 q3 q4 : Pos} (X : K.In h) (G : h.Ns mainGlobals mg) (c1 : (Fa.glo x).ok K = true) (c2 : (Fa.glo bx).ok K = true) (ce : errAll x bx K = true)
    (F : FunD K "__init__" "FolderkinError.__init__" (PySem.ErrX.iA p1 p2) (PySem.ErrX.iB q1 q2 q3 q4) PySem.ErrX.iS [] [] (ma K (ga K bx) "__init__") fd) : ErrAll K mg x bx := by
  obtain ⟨e1, ce⟩ := ba ce
  obtain ⟨e2, ce⟩ := ba ce
  obtain ⟨e3, ce⟩ := ba ce
  obtain ⟨e4, ce⟩ := ba ce
  obtain ⟨e5, ce⟩ := ba ce
  obtain ⟨e6, ce⟩ := ba ce
  obtain ⟨e7, ce⟩ := ba ce
  obtain ⟨e8, ce⟩ := ba ce
  obtain ⟨e9, ce⟩ := ba ce
  obtain ⟨e10, ce⟩ := ba ce
  obtain ⟨e11, ce⟩ := ba ce
  obtain ⟨e12, ce⟩ := ba ce
  obtain ⟨e13, ce⟩ := ba ce
  obtain ⟨e14, ce⟩ := ba ce
  obtain ⟨e15, ce⟩ := ba ce
  obtain ⟨e16, ce⟩ := ba ce
  obtain ⟨e17, ce⟩ := ba ce
  obtain ⟨e18, ce⟩ := ba ce
  obtain ⟨e19, e20⟩ := ba ce
  obtain ⟨oc, od, dV, kV, doc, pm, an, cdv, ct, osl, rfl, lk, hcd, dfl, _⟩ := F.ex
  have ed : dV = .none := by
    rcases dfl with ⟨_, h⟩ | ⟨h, _⟩
    · exact h
    · exact absurd rfl h
  subst ed
  exact { er := { gC := glo_ok X G c1, cls := errB_ok e1, sa := eqO_ok e2, ga := eqO_ok e3, gg := eqO_ok e4, noN := eqO_ok e5, iC := eqO_ok e6, tC := of_decide_eq_true e7, kC := e8, exC := of_decide_eq_true e9, tyC := of_decide_eq_true e10, hdC := e11, te := of_decide_eq_true e12,
                  fn := ⟨oc, od, kV, doc, pm, an, cdv, ct, osl, p1, p2, q1, q2, q3, q4, lk, hcd⟩ },
          gB := glo_ok X G c2, ec := ⟨eqO_ok e3, eqO_ok e4, of_decide_eq_true e9, e11, eqO_ok e14, eqO_ok e15, of_decide_eq_true e16, of_decide_eq_true e17⟩,
          xb := of_decide_eq_true e13, ii := of_decide_eq_true e18, ib := of_decide_eq_true e19, iv := of_decide_eq_true e20 }
/-! ### calls of a def that may raise -/
structure CalX (P : Program) (w : World) (K : PySem.W.Frag) (mg : Str → Option Value) (base : Heap) (k : Nat) (x : Str) (sp : Sp) : Prop where
  ex : ∃ (f : Addr) (fd : FuncData) (ps : List Str), FnOk P w K mg base (L2.CX P w) k f fd ps sp ∧ mg x = some (.ref f) ∧ PySem.W.keepIn K (.ref f) = true ∧ Binds K fd ps []
theorem pe_cX {X : Cx} {k j : Nat} {x : Str} {sp : Sp} {p pos : Pos} {e : Expr} {es : List Expr} {t : TA} {W : WX} (c : CalX X.prog X.w X.K X.mg X.base k x sp) (hr : Room j X.A) (hk : k ≤ j) (tk : Takes X W) (hg : Gl X x) (ha : PA X (e :: es) t)
    (hdb : (x == ("__debug__" : Str)) = false := by decide) (he : starEach (e :: es) X.env = (false, eval e X.env) :: starEach es X.env := by rfl)
    (hpl : (backTo pos (starEach es X.env)).any (·.1) = false := by rfl) : PE X (.Call (.Name x p) (e :: es) [] pos) (tCallS sp (WE W) t) := by
  obtain ⟨f, fd, ps, F, hm, kp, b⟩ := c.ex
  exact pe_callS F (hr.mono hk) hg hm kp b (fun σ => passAt tk σ) ha hdb he hpl
/-- promises of a def that may raise, by arity -/
abbrev sp1X (R : V → Hp → VK → XK → Prop) : Sp := fun vs H Q E => ∃ a, vs = [a] ∧ R a H Q E
end Vf

namespace Vk36
open PySem PySem.Spec PyProof.Rows L2 Vf
def topS (i : Nat) : Stmt := PySem.Challenge.pw_folderkin_k36_any_integers_as_blocks.main.body.getD i (.Pass ⟨0, 0, 0, 0⟩)
abbrev s_FolderkinError___init__ : Stmt := inClass (topS 1) 0
abbrev N_FolderkinError___init__ : List Str := ["self", "place"]
theorem sc_FolderkinError___init__ : FnScope N_FolderkinError___init__ ["self", "place"] (defScope s_FolderkinError___init__) := ⟨rfl, rfl, rfl, by decide +kernel, rfl, by decide +kernel, by decide +kernel⟩
abbrev s_block_size : Stmt := topS 6
abbrev N_block_size : List Str := ["number", "size"]
theorem sc_block_size : FnScope N_block_size ["number"] (defScope s_block_size) := ⟨rfl, rfl, rfl, by decide +kernel, rfl, by decide +kernel, by decide +kernel⟩
abbrev s_is_block : Stmt := topS 7
abbrev N_is_block : List Str := ["number"]
theorem sc_is_block : FnScope N_is_block ["number"] (defScope s_is_block) := ⟨rfl, rfl, rfl, by decide +kernel, rfl, by decide +kernel, by decide +kernel⟩
abbrev s_block_bytes : Stmt := topS 8
abbrev N_block_bytes : List Str := ["number", "size", "behind"]
theorem sc_block_bytes : FnScope N_block_bytes ["number"] (defScope s_block_bytes) := ⟨rfl, rfl, rfl, by decide +kernel, rfl, by decide +kernel, by decide +kernel⟩
abbrev s_joined : Stmt := topS 9
abbrev N_joined : List Str := ["numbers", "content", "index", "number"]
theorem sc_joined : FnScope N_joined ["numbers"] (defScope s_joined) := ⟨rfl, rfl, rfl, by decide +kernel, rfl, by decide +kernel, by decide +kernel⟩
abbrev s_is_blocks : Stmt := topS 10
abbrev N_is_blocks : List Str := ["numbers", "number"]
theorem sc_is_blocks : FnScope N_is_blocks ["numbers"] (defScope s_is_blocks) := ⟨rfl, rfl, rfl, by decide +kernel, rfl, by decide +kernel, by decide +kernel⟩
abbrev s_law_draw : Stmt := topS 12
abbrev N_law_draw : List Str := ["state", "script", "size", "at", "cell", "first", "digit"]
theorem sc_law_draw : FnScope N_law_draw ["state", "script", "size"] (defScope s_law_draw) := ⟨rfl, rfl, rfl, by decide +kernel, rfl, by decide +kernel, by decide +kernel⟩
abbrev s_law_integers : Stmt := topS 13
abbrev N_law_integers : List Str := ["row", "item"]
theorem sc_law_integers : FnScope N_law_integers ["row"] (defScope s_law_integers) := ⟨rfl, rfl, rfl, by decide +kernel, rfl, by decide +kernel, by decide +kernel⟩
abbrev s_law_size : Stmt := topS 14
abbrev N_law_size : List Str := ["number", "lows", "k"]
theorem sc_law_size : FnScope N_law_size ["number"] (defScope s_law_size) := ⟨rfl, rfl, rfl, by decide +kernel, rfl, by decide +kernel, by decide +kernel⟩
abbrev s_law_bytes : Stmt := topS 15
abbrev N_law_bytes : List Str := ["number", "found", "k"]
theorem sc_law_bytes : FnScope N_law_bytes ["number"] (defScope s_law_bytes) := ⟨rfl, rfl, rfl, by decide +kernel, rfl, by decide +kernel, by decide +kernel⟩
abbrev s_law_integer : Stmt := topS 16
abbrev N_law_integer : List Str := ["state", "script", "lows", "kind", "low"]
theorem sc_law_integer : FnScope N_law_integer ["state", "script"] (defScope s_law_integer) := ⟨rfl, rfl, rfl, by decide +kernel, rfl, by decide +kernel, by decide +kernel⟩
abbrev s_law_outcome : Stmt := topS 17
abbrev N_law_outcome : List Str := ["row", "error"]
theorem sc_law_outcome : FnScope N_law_outcome ["row"] (defScope s_law_outcome) := ⟨rfl, rfl, rfl, by decide +kernel, rfl, by decide +kernel, by decide +kernel⟩
abbrev s_law_one : Stmt := topS 18
abbrev N_law_one : List Str := ["number", "error"]
theorem sc_law_one : FnScope N_law_one ["number"] (defScope s_law_one) := ⟨rfl, rfl, rfl, by decide +kernel, rfl, by decide +kernel, by decide +kernel⟩
abbrev s_law_told : Stmt := topS 19
abbrev N_law_told : List Str := ["actual", "due"]
theorem sc_law_told : FnScope N_law_told ["actual", "due"] (defScope s_law_told) := ⟨rfl, rfl, rfl, by decide +kernel, rfl, by decide +kernel, by decide +kernel⟩
abbrev s_law : Stmt := topS 20
abbrev N_law : List Str := ["script", "state", "row", "more", "bad", "short", "due", "number", "size", "told", "given", "found", "fine", "k"]
theorem sc_law : FnScope N_law ["script"] (defScope s_law) := ⟨rfl, rfl, rfl, by decide +kernel, rfl, by decide +kernel, by decide +kernel⟩
structure Txt (K : PySem.W.Frag) (mg : Str → Option Value) : Prop where
  f_ValueError : mg "ValueError" = none
  f_bool : mg "bool" = none
  f_enumerate : mg "enumerate" = none
  f_int : mg "int" = none
  f_isinstance : mg "isinstance" = none
  f_len : mg "len" = none
  f_list : mg "list" = none
  f_range : mg "range" = none
  f_reversed : mg "reversed" = none
  f_tuple : mg "tuple" = none
  c_BLOCK : ∃ u, mg "BLOCK" = some u ∧ RelV (.int 4) u
  c__MOST_BLOCKS : ∃ u, mg "_MOST_BLOCKS" = some u ∧ RelV (.int 255) u
  er_InvalidBlock : ErrAll K mg "InvalidBlock" "FolderkinError"
theorem e_raiseErr {C : Addr} {W : WX} {ta : TA} {D : Ends} {σ : L2.St} {H : Hp} (q : ta σ H fun vs H1 => ∃ v, vs = [v] ∧ ∀ d, H1 d = none → W (.ref C) (some d) σ (upd H1 d (.xd [(("place" : Str), v)]))) : tRaiseErr C W ta D σ H := q
theorem e_callS {sp : Sp} {E : L2.St → XK} {t : TA} {σ : L2.St} {H : Hp} {Q : VK} (q : t σ H fun vs H1 => sp vs H1 Q (E σ)) : tCallS sp E t σ H Q := q
theorem e_plcErr {C a : Addr} {cls : Value} {d : Option Addr} {te : TE} {σ : L2.St} {H : Hp} {Q : VK} (q : te σ H fun x H1 => x = .ref a ∧ cls = .ref C ∧ ∃ (dd : Addr) (v : V), d = some dd ∧ H1 dd = some (.xd [(("place" : Str), v)]) ∧ Q v H1) : tPlcErr C a cls d te σ H Q := q
def bnum (c : List Int) : Int := c.foldl (fun n b => n * 256 + b) 1
def bsize (n : Int) : Int := if n / 256 = 1 then 1 else if n / 65536 = 1 then 2 else if n / 16777216 = 1 then 3 else if n / 4294967296 = 1 then 4 else 0
def bbytes (n : Int) : List Int :=
  if bsize n = 1 then [n % 256] else if bsize n = 2 then [n / 256 % 256, n % 256] else if bsize n = 3 then [n / 65536 % 256, n / 256 % 256, n % 256]
  else if bsize n = 4 then [n / 16777216 % 256, n / 65536 % 256, n / 256 % 256, n % 256] else []
def isB (c : List Int) : Prop := ∀ b ∈ c, 0 ≤ b ∧ b < 256
def chunks : List Int → List (List Int)
  | [] => []
  | [a] => [[a]]
  | [a, b] => [[a, b]]
  | [a, b, c] => [[a, b, c]]
  | a :: b :: c :: d :: r => [a, b, c, d] :: chunks r
theorem chunks_flat : ∀ xs, (chunks xs).flatten = xs
  | [] => rfl
  | [a] => rfl
  | [a, b] => rfl
  | [a, b, c] => rfl
  | a :: b :: c :: d :: r => by
    show [a, b, c, d] ++ (chunks r).flatten = _
    rw [chunks_flat r]
    rfl
theorem chunks_len : ∀ xs, (chunks xs).length = (xs.length + 3) / 4
  | [] => rfl
  | [a] => by simp [chunks]
  | [a, b] => by simp [chunks]
  | [a, b, c] => by simp [chunks]
  | a :: b :: c :: d :: r => by
    have ih := chunks_len r
    show (chunks r).length + 1 = (r.length + 4 + 3) / 4
    omega
theorem chunks_get : ∀ (xs : List Int) (i : Nat), i < (xs.length + 3) / 4 → (chunks xs)[i]? = some ((xs.drop (4 * i)).take 4)
  | [], i, h => by simp at h
  | [a], i, h => by
    have e : i = 0 := by simp at h; omega
    subst e; rfl
  | [a, b], i, h => by
    have e : i = 0 := by simp at h; omega
    subst e; rfl
  | [a, b, c], i, h => by
    have e : i = 0 := by simp at h; omega
    subst e; rfl
  | a :: b :: c :: d :: r, 0, h => rfl
  | a :: b :: c :: d :: r, i + 1, h => by
    have ih := chunks_get r i (by simp at h; omega)
    show (chunks r)[i]? = _
    rw [ih]
    have e : 4 * (i + 1) = (4 * i) + 1 + 1 + 1 + 1 := by omega
    rw [e]
    rfl
theorem chunks_map (xs : List Int) : chunks xs = (List.range ((xs.length + 3) / 4)).map fun i => (xs.drop (4 * i)).take 4 := by
  refine List.ext_getElem? fun i => ?_
  by_cases h : i < (xs.length + 3) / 4
  · rw [chunks_get xs i h, List.getElem?_map, List.getElem?_range h]
    rfl
  · rw [List.getElem?_eq_none (by rw [chunks_len]; omega), List.getElem?_eq_none (by simp; omega)]
/-- a piece: one to four bytes -/
structure Piece (c : List Int) : Prop where
  b : isB c
  h1 : 1 ≤ c.length
  h4 : c.length ≤ 4
theorem chunks_piece : ∀ (xs : List Int), isB xs → ∀ c ∈ chunks xs, Piece c
  | [], _, c, h => by cases h
  | [a], hb, c, h => by
    rw [List.mem_singleton.mp h]; exact ⟨hb, by simp, by simp⟩
  | [a, b], hb, c, h => by
    rw [List.mem_singleton.mp h]; exact ⟨hb, by simp, by simp⟩
  | [a, b, c'], hb, c, h => by
    rw [List.mem_singleton.mp h]; exact ⟨hb, by simp, by simp⟩
  | a :: b :: c' :: d :: r, hb, c, h => by
    rcases List.mem_cons.mp h with e | h
    · rw [e]
      exact ⟨fun x hx => hb x (by simp at hx ⊢; rcases hx with q | q | q | q <;> simp [q]), by simp, by simp⟩
    · exact chunks_piece r (fun x hx => hb x (by simp [hx])) c h
theorem Piece.cases {c : List Int} {P : List Int → Prop} (h : Piece c) (p1 : ∀ a, 0 ≤ a ∧ a < 256 → P [a]) (p2 : ∀ a b, 0 ≤ a ∧ a < 256 → 0 ≤ b ∧ b < 256 → P [a, b])
    (p3 : ∀ a b d, 0 ≤ a ∧ a < 256 → 0 ≤ b ∧ b < 256 → 0 ≤ d ∧ d < 256 → P [a, b, d]) (p4 : ∀ a b d e, 0 ≤ a ∧ a < 256 → 0 ≤ b ∧ b < 256 → 0 ≤ d ∧ d < 256 → 0 ≤ e ∧ e < 256 → P [a, b, d, e]) : P c := by
  obtain ⟨hb, h1, h4⟩ := h
  match c, hb, h1, h4 with
  | [a], hb, _, _ => exact p1 a (hb a (by simp))
  | [a, b], hb, _, _ => exact p2 a b (hb a (by simp)) (hb b (by simp))
  | [a, b, d], hb, _, _ => exact p3 a b d (hb a (by simp)) (hb b (by simp)) (hb d (by simp))
  | [a, b, d, e], hb, _, _ => exact p4 a b d e (hb a (by simp)) (hb b (by simp)) (hb d (by simp)) (hb e (by simp))
  | _ :: _ :: _ :: _ :: _ :: _, _, _, h4 => simp at h4
theorem bnum1 (a : Int) : bnum [a] = 256 + a := by simp [bnum]
theorem bnum2 (a b : Int) : bnum [a, b] = 65536 + a * 256 + b := by simp [bnum]; omega
theorem bnum3 (a b d : Int) : bnum [a, b, d] = 16777216 + a * 65536 + b * 256 + d := by simp [bnum]; omega
theorem bnum4 (a b d e : Int) : bnum [a, b, d, e] = 4294967296 + a * 16777216 + b * 65536 + d * 256 + e := by simp [bnum]; omega
theorem bsize_bnum {c : List Int} (h : Piece c) : bsize (bnum c) = c.length := by
  refine h.cases (P := fun c => bsize (bnum c) = c.length) (fun a ha => ?_) (fun a b ha hb => ?_) (fun a b d ha hb hd => ?_) (fun a b d e ha hb hd he => ?_)
  · rw [bnum1]; unfold bsize; rw [if_pos (by omega)]; rfl
  · rw [bnum2]; unfold bsize; rw [if_neg (by omega), if_pos (by omega)]; rfl
  · rw [bnum3]; unfold bsize; rw [if_neg (by omega), if_neg (by omega), if_pos (by omega)]; rfl
  · rw [bnum4]; unfold bsize; rw [if_neg (by omega), if_neg (by omega), if_neg (by omega), if_pos (by omega)]; rfl
theorem bbytes_bnum {c : List Int} (h : Piece c) : bbytes (bnum c) = c := by
  have hs := bsize_bnum h
  unfold bbytes
  rw [hs]
  refine h.cases (P := fun c => (if (c.length : Int) = 1 then [bnum c % 256] else if (c.length : Int) = 2 then [bnum c / 256 % 256, bnum c % 256] else if (c.length : Int) = 3 then [bnum c / 65536 % 256, bnum c / 256 % 256, bnum c % 256]
    else if (c.length : Int) = 4 then [bnum c / 16777216 % 256, bnum c / 65536 % 256, bnum c / 256 % 256, bnum c % 256] else []) = c) (fun a ha => ?_) (fun a b ha hb => ?_) (fun a b d ha hb hd => ?_) (fun a b d e ha hb hd he => ?_)
  · rw [if_pos (show ((([a] : List Int).length : Nat) : Int) = 1 from rfl), bnum1]
    congr 1
    omega
  · rw [if_neg (by simp), if_pos (show ((([a, b] : List Int).length : Nat) : Int) = 2 from rfl), bnum2]
    have e1 : (65536 + a * 256 + b) / 256 % 256 = a := by omega
    have e2 : (65536 + a * 256 + b) % 256 = b := by omega
    rw [e1, e2]
  · rw [if_neg (by simp), if_neg (by simp), if_pos (show ((([a, b, d] : List Int).length : Nat) : Int) = 3 from rfl), bnum3]
    have e1 : (16777216 + a * 65536 + b * 256 + d) / 65536 % 256 = a := by omega
    have e2 : (16777216 + a * 65536 + b * 256 + d) / 256 % 256 = b := by omega
    have e3 : (16777216 + a * 65536 + b * 256 + d) % 256 = d := by omega
    rw [e1, e2, e3]
  · rw [if_neg (by simp), if_neg (by simp), if_neg (by simp), if_pos (show ((([a, b, d, e] : List Int).length : Nat) : Int) = 4 from rfl), bnum4]
    have e1 : (4294967296 + a * 16777216 + b * 65536 + d * 256 + e) / 16777216 % 256 = a := by omega
    have e2 : (4294967296 + a * 16777216 + b * 65536 + d * 256 + e) / 65536 % 256 = b := by omega
    have e3 : (4294967296 + a * 16777216 + b * 65536 + d * 256 + e) / 256 % 256 = d := by omega
    have e4 : (4294967296 + a * 16777216 + b * 65536 + d * 256 + e) % 256 = e := by omega
    rw [e1, e2, e3, e4]
theorem bnum_inj {c d : List Int} (hc : Piece c) (hd : Piece d) : bnum c = bnum d ↔ c = d :=
  ⟨fun e => by rw [← bbytes_bnum hc, ← bbytes_bnum hd, e], fun e => by rw [e]⟩
theorem flat_bytes {xs : List Int} (h : isB xs) : ((chunks xs).map bnum).flatMap bbytes = xs := by
  have q : ∀ l : List (List Int), (∀ c ∈ l, Piece c) → (l.map bnum).flatMap bbytes = l.flatten := by
    intro l
    induction l with
    | nil => intro _; rfl
    | cons c r ih =>
      intro hp
      show bbytes (bnum c) ++ (r.map bnum).flatMap bbytes = c ++ r.flatten
      rw [bbytes_bnum (hp c (List.mem_cons_self ..)), ih fun d hd => hp d (List.mem_cons_of_mem _ hd)]
  rw [q _ (chunks_piece xs h), chunks_flat]
def nums (xs : List Int) : List Int := (chunks xs).map bnum
theorem nums_inj {xs ys : List Int} (h1 : isB xs) (h2 : isB ys) : nums xs = nums ys ↔ xs = ys :=
  ⟨fun e => by rw [← flat_bytes h1, ← flat_bytes h2]; exact congrArg _ e, fun e => by rw [e]⟩
/-- the order of two rows of bytes by their pieces -/
def lessP : List (List Int) → List (List Int) → Bool
  | [], [] => false
  | [], _ :: _ => true
  | _ :: _, [] => false
  | c :: cs, d :: ds => if c = d then lessP cs ds else if c.length = d.length then HT.lexLt c d else decide (c.length < d.length)
theorem bnum_len {c d : List Int} (hc : Piece c) (hd : Piece d) (h : c.length < d.length) : bnum c < bnum d := by
  have key : ∀ c : List Int, Piece c → 256 ^ c.length ≤ bnum c ∧ bnum c < 2 * 256 ^ c.length := fun c h => by
    refine h.cases (P := fun c => 256 ^ c.length ≤ bnum c ∧ bnum c < 2 * 256 ^ c.length) (fun a ha => ?_) (fun a b ha hb => ?_) (fun a b d ha hb hd => ?_) (fun a b d e ha hb hd he => ?_)
    · rw [bnum1, show (256 : Int) ^ ([a] : List Int).length = 256 from rfl]; omega
    · rw [bnum2, show (256 : Int) ^ ([a, b] : List Int).length = 65536 from rfl]; omega
    · rw [bnum3]
      show (256 : Int) ^ 3 ≤ _ ∧ _ < 2 * (256 : Int) ^ 3
      rw [show (256 : Int) ^ 3 = 16777216 by decide +kernel]; omega
    · rw [bnum4]
      show (256 : Int) ^ 4 ≤ _ ∧ _ < 2 * (256 : Int) ^ 4
      rw [show (256 : Int) ^ 4 = 4294967296 by decide +kernel]; omega
  have k1 := (key c hc).2
  have k2 := (key d hd).1
  have l1 := hc.h1
  have l4 := hd.h4
  have e : ∀ n : Nat, 1 ≤ n → n < d.length → (2 : Int) * 256 ^ n ≤ 256 ^ d.length := fun n h1 h2 => by
    have hd4 : d.length = 2 ∨ d.length = 3 ∨ d.length = 4 := by omega
    have hn : n = 1 ∨ n = 2 ∨ n = 3 := by omega
    rcases hd4 with q | q | q <;> rcases hn with r | r | r <;> rw [q, r] <;> first | decide | (exfalso; omega)
  have := e _ l1 h
  omega
theorem bnum_lex {c d : List Int} (hc : Piece c) (hd : Piece d) (h : c.length = d.length) (hne : c ≠ d) : decide (bnum c < bnum d) = HT.lexLt c d := by
  obtain ⟨bc, c1, c4⟩ := hc
  obtain ⟨bd, d1, d4⟩ := hd
  match c, d, bc, c1, c4, bd, h, hne with
  | [a], [b], bc, _, _, bd, _, hne =>
    have h1 := bc a (by simp)
    have h2 := bd b (by simp)
    have n1 : a ≠ b := fun e => hne (by rw [e])
    rw [bnum1, bnum1]
    show _ = if a = b then false else decide (a < b)
    rw [if_neg n1]
    exact decide_eq_decide.mpr (by omega)
  | [a, a2], [b, b2], bc, _, _, bd, _, hne =>
    have h1 := bc a (by simp)
    have h2 := bd b (by simp)
    have h3 := bc a2 (by simp)
    have h4 := bd b2 (by simp)
    rw [bnum2, bnum2]
    show _ = if a = b then (if a2 = b2 then false else decide (a2 < b2)) else decide (a < b)
    by_cases n1 : a = b
    · rw [if_pos n1]
      have n2 : a2 ≠ b2 := fun e => hne (by rw [n1, e])
      rw [if_neg n2]
      exact decide_eq_decide.mpr (by omega)
    · rw [if_neg n1]
      exact decide_eq_decide.mpr (by omega)
  | [a, a2, a3], [b, b2, b3], bc, _, _, bd, _, hne =>
    have h1 := bc a (by simp)
    have h2 := bd b (by simp)
    have h3 := bc a2 (by simp)
    have h4 := bd b2 (by simp)
    have h5 := bc a3 (by simp)
    have h6 := bd b3 (by simp)
    rw [bnum3, bnum3]
    show _ = if a = b then (if a2 = b2 then (if a3 = b3 then false else decide (a3 < b3)) else decide (a2 < b2)) else decide (a < b)
    by_cases n1 : a = b
    · rw [if_pos n1]
      by_cases n2 : a2 = b2
      · rw [if_pos n2]
        have n3 : a3 ≠ b3 := fun e => hne (by rw [n1, n2, e])
        rw [if_neg n3]
        exact decide_eq_decide.mpr (by omega)
      · rw [if_neg n2]
        exact decide_eq_decide.mpr (by omega)
    · rw [if_neg n1]
      exact decide_eq_decide.mpr (by omega)
  | [a, a2, a3, a4], [b, b2, b3, b4], bc, _, _, bd, _, hne =>
    have h1 := bc a (by simp)
    have h2 := bd b (by simp)
    have h3 := bc a2 (by simp)
    have h4 := bd b2 (by simp)
    have h5 := bc a3 (by simp)
    have h6 := bd b3 (by simp)
    have h7 := bc a4 (by simp)
    have h8 := bd b4 (by simp)
    rw [bnum4, bnum4]
    show _ = if a = b then (if a2 = b2 then (if a3 = b3 then (if a4 = b4 then false else decide (a4 < b4)) else decide (a3 < b3)) else decide (a2 < b2)) else decide (a < b)
    by_cases n1 : a = b
    · rw [if_pos n1]
      by_cases n2 : a2 = b2
      · rw [if_pos n2]
        by_cases n3 : a3 = b3
        · rw [if_pos n3]
          have n4 : a4 ≠ b4 := fun e => hne (by rw [n1, n2, n3, e])
          rw [if_neg n4]
          exact decide_eq_decide.mpr (by omega)
        · rw [if_neg n3]
          exact decide_eq_decide.mpr (by omega)
      · rw [if_neg n2]
        exact decide_eq_decide.mpr (by omega)
    · rw [if_neg n1]
      exact decide_eq_decide.mpr (by omega)
theorem lex_nums : ∀ {cs ds : List (List Int)}, (∀ c ∈ cs, Piece c) → (∀ d ∈ ds, Piece d) → HT.lexLt (cs.map bnum) (ds.map bnum) = lessP cs ds
  | [], [], _, _ => rfl
  | [], _ :: _, _, _ => rfl
  | _ :: _, [], _, _ => rfl
  | c :: cs, d :: ds, h1, h2 => by
    have pc := h1 c (List.mem_cons_self ..)
    have pd := h2 d (List.mem_cons_self ..)
    have ih := lex_nums (cs := cs) (ds := ds) (fun x hx => h1 x (List.mem_cons_of_mem _ hx)) (fun x hx => h2 x (List.mem_cons_of_mem _ hx))
    show (if bnum c = bnum d then HT.lexLt (cs.map bnum) (ds.map bnum) else decide (bnum c < bnum d)) = if c = d then lessP cs ds else if c.length = d.length then HT.lexLt c d else decide (c.length < d.length)
    by_cases e : c = d
    · rw [if_pos e, if_pos (by rw [e]), ih]
    · rw [if_neg e, if_neg (fun q => e ((bnum_inj pc pd).mp q))]
      by_cases l : c.length = d.length
      · rw [if_pos l, bnum_lex pc pd l e]
      · rw [if_neg l]
        by_cases l2 : c.length < d.length
        · rw [decide_eq_true l2, decide_eq_true (bnum_len pc pd l2)]
        · have := bnum_len pd pc (by omega)
          rw [decide_eq_false l2, decide_eq_false (by omega)]
def sp_block_number (K : PySem.W.Frag) : Sp := sp1 fun a H Q => ∃ (p : Addr) (xs : List Int), a = .ref p ∧ SqL K H p (xs.map V.int) ∧ Q (.int (bnum xs)) H
def sp_block_size (K : PySem.W.Frag) : Sp := sp1 fun a H Q => ∃ n : Int, a = .int n ∧ Q (.int (bsize n)) H
def sp_is_block (K : PySem.W.Frag) : Sp := sp1 fun a H Q => ∃ n : Int, a = .int n ∧ Q (.bl (decide (0 < bsize n))) H
def sp_block_bytes (K : PySem.W.Frag) : Sp := sp1 fun a H Q => ∃ n : Int, a = .int n ∧ 0 < bsize n ∧ ∀ (p : Addr) (H' : Hp), H p = none → Same H H' → H' p = some (.lst ((bbytes n).map V.int)) → Q (.ref p) H'
def sp_split (K : PySem.W.Frag) : Sp := sp1 fun a H Q => ∃ (p : Addr) (xs : List Int), a = .ref p ∧ SqL K H p (xs.map V.int) ∧ xs.length ≤ 100000 ∧ ∀ (q : Addr) (H' : Hp), H q = none → Same H H' → H' q = some (.tup ((nums xs).map V.int)) → Q (.ref q) H'
theorem bsize_le (n : Int) : 0 ≤ bsize n ∧ bsize n ≤ 4 := by
  unfold bsize
  repeat' split
  all_goals omega
theorem bbytes_len (n : Int) : (bbytes n).length ≤ 4 := by
  unfold bbytes
  repeat' split
  all_goals simp
theorem range4 {n : Int} (h0 : 0 ≤ n) (h1 : n ≤ 1000000) : RgC 0 n 4 ((n.toNat + 3) / 4) := by
  have e : Builtin.Range.rangeSize 0 n 4 = (((n.toNat + 3) / 4 : Nat) : Int) := by
    rw [PyProof.Rows.rangeSize_pos (by decide) h0]
    omega
  refine ⟨by decide, by decide, ?_, e⟩
  unfold Builtin.Range.small
  rw [e]
  simp only [Builtin.Range.rangeFitsLong, Bool.and_eq_true, Bool.or_eq_true, decide_eq_true_eq, beq_iff_eq, show ((4 : Int) > 0) by decide, if_true]
  omega
theorem cut_chunk (xs : List Int) (i : Nat) : cutV (xs.map V.int) (some (0 + (i : Nat) * 4)) (some (0 + (i : Nat) * 4 + 4)) = ((xs.drop (4 * i)).take 4).map V.int := by
  unfold cutV
  have e1 : (0 + ((i : Nat) : Int) * 4) = ((4 * i : Nat) : Int) := by omega
  have e2 : (0 + ((i : Nat) : Int) * 4 + 4) = ((4 * i + 4 : Nat) : Int) := by omega
  rw [e2, e1, HT.sIx_nat, HT.sIx_nat, List.length_map, List.map_take, List.map_drop]
  by_cases h : 4 * i ≤ xs.length
  · rw [Nat.min_eq_left h]
    by_cases h2 : 4 * i + 4 ≤ xs.length
    · rw [Nat.min_eq_left h2, show 4 * i + 4 - 4 * i = 4 by omega]
    · rw [Nat.min_eq_right (by omega)]
      rw [List.take_of_length_le (by simp), List.take_of_length_le (by simp; omega)]
  · rw [Nat.min_eq_right (by omega), Nat.min_eq_right (by omega)]
    rw [List.drop_eq_nil_of_le (by simp), List.drop_eq_nil_of_le (by simp; omega)]
    simp
theorem bbytes_length {n : Int} (h : 0 < bsize n) : (bbytes n).length = (bsize n).toNat := by
  have h4 := (bsize_le n).2
  unfold bbytes
  by_cases e1 : bsize n = 1
  · rw [if_pos e1, e1]; rfl
  · rw [if_neg e1]
    by_cases e2 : bsize n = 2
    · rw [if_pos e2, e2]; rfl
    · rw [if_neg e2]
      by_cases e3 : bsize n = 3
      · rw [if_pos e3, e3]; rfl
      · rw [if_neg e3]
        have e4 : bsize n = 4 := by omega
        rw [if_pos e4, e4]; rfl
theorem byte_at {n : Int} {i : Nat} (h : 0 < bsize n) (hi : i < (bsize n - 0).toNat) : n / 2 ^ (8 * (0 + ((bsize n - 0).toNat : Int) - 1 + (i : Int) * -1)).toNat % 2 ^ 8 = (bbytes n).getD i 0 := by
  have h4 := (bsize_le n).2
  unfold bbytes
  by_cases e1 : bsize n = 1
  · rw [if_pos e1]
    rw [e1] at hi ⊢
    have ei : i = 0 := by omega
    subst ei
    show n / 1 % 256 = n % 256
    omega
  · rw [if_neg e1]
    by_cases e2 : bsize n = 2
    · rw [if_pos e2]
      rw [e2] at hi ⊢
      have hi2 : i < 2 := by omega
      match i, hi2 with
      | 0, _ => rfl
      | 1, _ =>
        show n / 1 % 256 = n % 256
        omega
    · rw [if_neg e2]
      by_cases e3 : bsize n = 3
      · rw [if_pos e3]
        rw [e3] at hi ⊢
        have hi2 : i < 3 := by omega
        match i, hi2 with
        | 0, _ => rfl
        | 1, _ => rfl
        | 2, _ =>
          show n / 1 % 256 = n % 256
          omega
      · rw [if_neg e3]
        have e4 : bsize n = 4 := by omega
        rw [if_pos e4]
        rw [e4] at hi ⊢
        have hi2 : i < 4 := by omega
        match i, hi2 with
        | 0, _ => rfl
        | 1, _ => rfl
        | 2, _ => rfl
        | 3, _ =>
          show n / 1 % 256 = n % 256
          omega
theorem map_getD : ∀ (l : List Int), (List.range l.length).map (fun i => V.int (l.getD i 0)) = l.map V.int := fun l => by
  refine List.ext_getElem? fun i => ?_
  by_cases h : i < l.length
  · rw [List.getElem?_map, List.getElem?_range h, List.getElem?_map, List.getElem?_eq_getElem h]
    show some (V.int (l.getD i 0)) = some (V.int l[i])
    rw [List.getD_eq_getElem?_getD, List.getElem?_eq_getElem h]
    rfl
  · rw [List.getElem?_eq_none (by simp; omega), List.getElem?_eq_none (by simp; omega)]
theorem nums_range (xs : List Int) : (nums xs).map V.int = (List.range ((xs.length + 3) / 4)).map fun i => V.int (bnum ((xs.drop (4 * i)).take 4)) := by
  unfold nums
  rw [chunks_map, List.map_map, List.map_map]
  rfl
theorem nums_len (xs : List Int) : (nums xs).length = (xs.length + 3) / 4 := by
  unfold nums
  rw [List.length_map, chunks_len]
theorem flat_len : ∀ ns : List Int, (ns.flatMap bbytes).length ≤ 4 * ns.length
  | [] => Nat.zero_le _
  | n :: r => by
    have ih := flat_len r
    have := bbytes_len n
    show (bbytes n ++ r.flatMap bbytes).length ≤ 4 * (r.length + 1)
    rw [List.length_append]
    omega
theorem same_tup {K : PySem.W.Frag} {H H' : Hp} {a : Addr} {xs : List V} (e : Same H H') (h : SqT K H a xs) : SqT K H' a xs := by
  rcases h with (h | ⟨o, h⟩) | h
  · exact .inl (.inl (e _ _ h))
  · exact .inl (.inr ⟨o, e _ _ h⟩)
  · exact .inr h
theorem cut_chunk2 (xs : List Int) (i : Nat) : cutV (xs.map V.int) (some (4 * (0 + (i : Nat)))) (some (4 * (0 + (i : Nat)) + 4)) = ((xs.drop (4 * i)).take 4).map V.int := by
  have e : (4 * (0 + ((i : Nat) : Int))) = 0 + (i : Nat) * 4 := by omega
  rw [e]; exact cut_chunk xs i
theorem nums_at {xs : List Int} {i : Nat} (h : i < (xs.length + 3) / 4) : (nums xs)[i]? = some (bnum ((xs.drop (4 * i)).take 4)) := by
  rw [nums, List.getElem?_map, chunks_get xs i h]; rfl
theorem nums_get {xs : List Int} {i : Nat} (h : i < (xs.length + 3) / 4) : atI ((nums xs).map V.int) (0 + (i : Nat)) = some (.int (bnum ((xs.drop (4 * i)).take 4))) :=
  at_of (j := i) (by omega) (by rw [List.getElem?_map, nums_at h]; rfl)
theorem chunk_piece {xs : List Int} (hb : isB xs) {i : Nat} (h : i < (xs.length + 3) / 4) : Piece ((xs.drop (4 * i)).take 4) :=
  chunks_piece xs hb _ (List.mem_of_getElem? (chunks_get xs i h))
theorem nums_pos {xs : List Int} (hb : isB xs) : ∀ n ∈ nums xs, 0 < bsize n := fun n hn => by
  obtain ⟨c, hc, rfl⟩ := List.mem_map.mp hn
  have q := chunks_piece xs hb c hc
  have := q.h1
  rw [bsize_bnum q]
  omega
theorem nums_len' (xs : List Int) : (nums xs).length = (xs.length + 3) / 4 := by rw [nums, List.length_map, chunks_len]
/-- blocks of one content -/
def isBlocks (ns : List Int) : Bool := decide (ns.length ≤ 255) && ns.dropLast.all (fun n => decide (bsize n = 4)) && (decide (ns = []) || decide (0 < bsize (ns.getLastD 0)))
theorem isBl_long {ns : List Int} (h : 255 < ns.length) : isBlocks ns = false := by
  unfold isBlocks
  rw [decide_eq_false (by omega)]
  rfl
theorem isBl_bad {ns : List Int} {x : Int} (h : x ∈ ns.dropLast) (h2 : ¬ bsize x = 4) : isBlocks ns = false := by
  unfold isBlocks
  have e : (ns.dropLast.all fun n => decide (bsize n = 4)) = false := by
    rw [List.all_eq_false]
    exact ⟨x, h, by rw [decide_eq_false h2]; exact Bool.false_ne_true⟩
  rw [e, Bool.and_false, Bool.false_and]
theorem isBl_end {ns : List Int} (h1 : ns.length ≤ 255) (h2 : ∀ n ∈ ns.dropLast, bsize n = 4) : isBlocks ns = (decide (ns = []) || decide (0 < bsize (ns.getLastD 0))) := by
  unfold isBlocks
  have e : (ns.dropLast.all fun n => decide (bsize n = 4)) = true := by
    rw [List.all_eq_true]
    exact fun n hn => decide_eq_true (h2 n hn)
  rw [e, decide_eq_true h1]
  rfl
theorem isBl_nums {xs : List Int} (hb : isB xs) (hl : xs.length ≤ 1020) : isBlocks (nums xs) = true := by
  have n1 := nums_len' xs
  rw [isBl_end (by omega) fun n hn => ?_]
  · by_cases e : nums xs = []
    · rw [decide_eq_true e]; rfl
    · have hm : (nums xs).getLastD 0 ∈ nums xs := by
        rw [List.getLastD_eq_getLast?, List.getLast?_eq_some_getLast e]
        exact List.getLast_mem e
      rw [decide_eq_true (nums_pos hb _ hm), Bool.or_true]
  · obtain ⟨i, hi⟩ := List.getElem?_of_mem hn
    rw [List.getElem?_dropLast] at hi
    split at hi
    · rename_i h2
      have h3 : i < (xs.length + 3) / 4 := by omega
      rw [nums_at h3] at hi
      rw [← Option.some.inj hi, bsize_bnum (chunk_piece hb h3), List.length_take, List.length_drop]
      omega
    · cases hi
theorem cut_last (xs : List V) : cutV xs none (some (-1)) = xs.dropLast := by
  unfold cutV
  have e : HT.sIx xs.length xs.length (some (-1)) = xs.length - 1 := by
    show (if (-1 : Int) < 0 then ((-1 : Int) + (xs.length : Int)).toNat else min (-1 : Int).toNat xs.length) = _
    rw [if_pos (by decide)]
    omega
  rw [e, HT.sIx_none, List.drop_zero, Nat.sub_zero, List.dropLast_eq_take]
theorem e_slA {K : PySem.W.Frag} {H : Hp} {Q : VK} {p : Addr} {xs : List V} {lo hi : Option Int} (h : SqT K H p xs) (q : ∀ r H', Same H H' → SqT K H' r (cutV xs lo hi) → Q (.ref r) H') : rSlA K (.ref p) lo hi H Q := by
  refine ⟨p, xs, rfl, h, fun w => q p H (Same.refl H) ?_, fun _ r hr => q r _ (same_new hr) (SqT.of upd_same)⟩
  have e : cutV xs lo hi = xs := by
    unfold cutV
    rw [w.1, w.2, List.drop_zero, Nat.sub_zero, List.take_length]
  rw [e]; exact h
theorem last_at {ns : List Int} (h : ¬ ns = []) : atI (ns.map V.int) (-1) = some (.int (ns.getLastD 0)) := by
  have e : ns = ns.dropLast ++ [ns.getLast h] := (List.dropLast_concat_getLast h).symm
  have e2 : ns.getLastD 0 = ns.getLast h := by
    rw [List.getLastD_eq_getLast?, List.getLast?_eq_some_getLast h]; rfl
  rw [e2]
  have e3 : ns.map V.int = ns.dropLast.map V.int ++ [V.int (ns.getLast h)] := by
    rw [← List.map_singleton, ← List.map_append, ← e]
  rw [e3]
  exact atI_last _ _
theorem map_dropLast (ns : List Int) : (ns.map V.int).dropLast = ns.dropLast.map V.int := (List.map_dropLast ..).symm
def sp_is_blocks (K : PySem.W.Frag) : Sp := sp1 fun a H Q => ∃ (p : Addr) (ns : List Int), a = .ref p ∧ SqE K H p (ns.map V.int) ∧ ∀ H', Same H H' → Q (.bl (isBlocks ns)) H'
def sp_law_integers (K : PySem.W.Frag) : Sp := sp1 fun a H Q => ∃ (p : Addr) (ns : List Int), a = .ref p ∧ SqE K H p (ns.map V.int) ∧ Q (.bl true) H
theorem lc_filt {K : PySem.W.Frag} {g : TG} {tt : TT} {te : TE} {vs : List Nat} {σ : L2.St} {Da : Addr} {H0 : Hp} {Q : VK} {lo : Int} {n : Nat} (hD : H0 Da = none) (hn : n ≤ 1000000) (p : Nat → Bool) (f : Nat → V)
    (hs : ∀ (i : Nat) (H2 : Hp) (C : VK) (E : Hp → Prop), i < n → Same H0 H2 → (p i = true → ∀ H3, Same H2 H3 → C (f i) H3) → (p i = false → ∀ H3, Same H2 H3 → E H3) →
      g (.int (lo + (i : Nat))) (wipe σ vs) H2 fun σ2 H2 => wipe σ2 vs = wipe σ vs ∧ tt σ2 H2 fun b H3 => if b = true then te σ2 H3 C else E H3)
    (hd : ∀ (H : Hp), Same H0 H → H Da = some (.lst (((List.range n).filter p).map f)) → Q (.ref Da) H) : LcB (Itr lo n) g tt te vs σ Da H0 Q := by
  refine lc_rng (fun i H2 => Same H0 H2 ∧ H2 Da = some (.lst (((List.range i).filter p).map f))) ⟨same_new hD, upd_same⟩ (fun i H2 hi q => ?_) (fun H2 q => hd H2 q.1 q.2)
  obtain ⟨s4, e4⟩ := q
  refine hs i H2 _ _ hi s4 (fun hp H3 s5 => ?_) (fun hp H3 s5 => ?_)
  · refine ⟨_, s5 _ _ e4, Nat.lt_of_le_of_lt (Nat.le_trans (by rw [List.length_map]; exact List.length_filter_le ..) (by rw [List.length_range]; omega : _ ≤ 1000000)) (by decide), Same.mut (s4.trans s5) hD, ?_⟩
    rw [upd_same, List.range_succ, List.filter_append, List.filter_cons_of_pos hp, List.map_append]
    rfl
  · refine ⟨s4.trans s5, ?_⟩
    rw [s5 _ _ e4, List.range_succ, List.filter_append, List.filter_cons_of_neg (by rw [hp]; exact Bool.false_ne_true), List.filter_nil, List.append_nil]
abbrev cIB (K : PySem.W.Frag) : Addr := He.ga K "InvalidBlock"
abbrev cFE (K : PySem.W.Frag) : Addr := He.ga K "FolderkinError"
def sp_block_bytesX (K : PySem.W.Frag) : Sp := sp1X fun a H Q E => ∃ n : Int, a = .int n ∧ (0 < bsize n → ∀ (p : Addr) (H' : Hp), H p = none → Same H H' → H' p = some (.lst ((bbytes n).map V.int)) → Q (.ref p) H') ∧
  (¬ 0 < bsize n → ∀ d : Addr, H d = none → E (.ref (cIB K)) (some d) (upd H d (.xd [(("place" : Str), .int 0)])))
def sp_joined (K : PySem.W.Frag) : Sp := sp1X fun a H Q E => ∃ (p : Addr) (ns : List Int), a = .ref p ∧ SqE K H p (ns.map V.int) ∧ ns.length ≤ 20000 ∧
  ((∀ n ∈ ns, 0 < bsize n) → ∀ (q : Addr) (H' : Hp), H q = none → Same H H' → H' q = some (.lst ((ns.flatMap bbytes).map V.int)) → Q (.ref q) H') ∧
  (∀ (pre : List Int) (x : Int) (post : List Int), ns = pre ++ x :: post → (∀ n ∈ pre, 0 < bsize n) → ¬ 0 < bsize x → ∀ (d : Addr) (H' : Hp), Same H H' → H' d = none → E (.ref (cIB K)) (some d) (upd H' d (.xd [(("place" : Str), .int (pre.length : Nat))])))
def sp_law_outcome (K : PySem.W.Frag) : Sp := sp1 fun a H Q => ∃ (p : Addr) (ns : List Int), a = .ref p ∧ SqE K H p (ns.map V.int) ∧ ns.length ≤ 20000 ∧
  ((∀ n ∈ ns, 0 < bsize n) → ∀ (q : Addr) (H' : Hp), Same H H' → H' q = some (.lst ((ns.flatMap bbytes).map V.int)) → Q (.ref q) H') ∧
  (∀ (pre : List Int) (x : Int) (post : List Int), ns = pre ++ x :: post → (∀ n ∈ pre, 0 < bsize n) → ¬ 0 < bsize x → ∀ H' : Hp, Same H H' → Q (.int (pre.length : Nat)) H')
def sp_law_one (K : PySem.W.Frag) : Sp := sp1 fun a H Q => ∃ n : Int, a = .int n ∧ (0 < bsize n → ∀ (q : Addr) (H' : Hp), Same H H' → H' q = some (.lst ((bbytes n).map V.int)) → Q (.ref q) H') ∧
  (¬ 0 < bsize n → ∀ H' : Hp, Same H H' → Q (.int 0) H')
def sp_law_size (K : PySem.W.Frag) : Sp := sp1 fun a H Q => ∃ n : Int, a = .int n ∧ ∀ H', Same H H' → Q (.int (bsize n)) H'
def sp_law_bytes (K : PySem.W.Frag) : Sp := sp1 fun a H Q => ∃ n : Int, a = .int n ∧ ∀ (q : Addr) (H' : Hp), Same H H' → H' q = some (.lst ((bbytes n).map V.int)) → Q (.ref q) H'
def sp_law_integer (K : PySem.W.Frag) : Sp := sp2 fun a b H Q => ∃ (st sc : Addr) (ns : List Int), a = .ref st ∧ b = .ref sc ∧ Dr K st sc ns H ∧ ∀ (n : Int) (H' : Hp), Kp st H H' → Dr K st sc ns H' → Q (.int n) H'
def sp_law_told (K : PySem.W.Frag) : Sp := sp2 fun a b H Q => ∃ x y : Bool, a = .bl x ∧ b = .bl y ∧ Q (.bl (x == y)) H
def sp_law (K : PySem.W.Frag) : Sp := sp1 fun a H Q => ∃ (sa : Addr) (ns : List Int), a = .ref sa ∧ SqL K H sa (ns.map V.int) ∧ ns.length ≤ 63 ∧ ∀ H', Q (.bl true) H'
def bytesOf : Nat → Int → List Int
  | 0, _ => []
  | i + 1, n => n / 256 ^ i % 256 :: bytesOf i n
theorem bytesOf_size (n : Int) : bytesOf (bsize n).toNat n = bbytes n := by
  have h := bsize_le n
  have hh : bsize n = 0 ∨ bsize n = 1 ∨ bsize n = 2 ∨ bsize n = 3 ∨ bsize n = 4 := by omega
  have p1 : (256 : Int) ^ 1 = 256 := rfl
  have p2 : (256 : Int) ^ 2 = 65536 := rfl
  have p3 : (256 : Int) ^ 3 = 16777216 := by decide +kernel
  unfold bbytes
  rcases hh with h | h | h | h | h <;> rw [h]
  · rfl
  · show [n / 256 ^ 0 % 256] = [n % 256]
    rw [Int.pow_zero, Int.ediv_one]
  · show [n / 256 ^ 1 % 256, n / 256 ^ 0 % 256] = [n / 256 % 256, n % 256]
    rw [Int.pow_zero, Int.ediv_one, p1]
  · show [n / 256 ^ 2 % 256, n / 256 ^ 1 % 256, n / 256 ^ 0 % 256] = [n / 65536 % 256, n / 256 % 256, n % 256]
    rw [Int.pow_zero, Int.ediv_one, p1, p2]
  · show [n / 256 ^ 3 % 256, n / 256 ^ 2 % 256, n / 256 ^ 1 % 256, n / 256 ^ 0 % 256] = [n / 16777216 % 256, n / 65536 % 256, n / 256 % 256, n % 256]
    rw [Int.pow_zero, Int.ediv_one, p1, p2, p3]
theorem pow_step (n : Int) {i : Nat} (h : i < 4) : n / 256 ^ i / 256 = n / 256 ^ (i + 1) := by
  have p1 : (256 : Int) ^ 1 = 256 := rfl
  have p2 : (256 : Int) ^ 2 = 65536 := rfl
  have p3 : (256 : Int) ^ 3 = 16777216 := by decide +kernel
  have p4 : (256 : Int) ^ 4 = 4294967296 := by decide +kernel
  have hh : i = 0 ∨ i = 1 ∨ i = 2 ∨ i = 3 := by omega
  rcases hh with h | h | h | h <;> subst h
  · rw [Int.pow_zero, Int.ediv_one]; rw [show (256 : Int) ^ (0 + 1) = 256 from rfl]
  · rw [p1, show (256 : Int) ^ (1 + 1) = 65536 from rfl]; omega
  · rw [p2, show (256 : Int) ^ (2 + 1) = 16777216 from p3]; omega
  · rw [p3, show (256 : Int) ^ (3 + 1) = 4294967296 from p4]; omega
theorem ints_of : ∀ {xs : List V}, (∀ x ∈ xs, ∃ n : Int, x = .int n) → ∃ ns : List Int, xs = ns.map V.int
  | [], _ => ⟨[], rfl⟩
  | x :: r, h => by
    obtain ⟨n, rfl⟩ := h x (List.mem_cons_self ..)
    obtain ⟨ns, rfl⟩ := ints_of fun y hy => h y (List.mem_cons_of_mem _ hy)
    exact ⟨n :: ns, rfl⟩
theorem split_bad : ∀ row : List Int, (∀ n ∈ row, 0 < bsize n) ∨ ∃ pre x post, row = pre ++ x :: post ∧ (∀ n ∈ pre, 0 < bsize n) ∧ ¬ 0 < bsize x
  | [] => .inl fun n hn => by cases hn
  | y :: r => by
    by_cases hy : 0 < bsize y
    · rcases split_bad r with h | ⟨pre, x, post, e, h1, h2⟩
      · exact .inl fun n hn => by
          rcases List.mem_cons.mp hn with rfl | hn
          · exact hy
          · exact h n hn
      · exact .inr ⟨y :: pre, x, post, by rw [e]; rfl, fun n hn => by
          rcases List.mem_cons.mp hn with rfl | hn
          · exact hy
          · exact h1 n hn, h2⟩
    · exact .inr ⟨[], y, r, rfl, fun n hn => (by cases hn), hy⟩
def badL (row : List Int) : List Nat := (List.range row.length).filter fun i => decide (bsize (row.getD i 0) = 0)
theorem badL_nil {row : List Int} (h : ∀ n ∈ row, 0 < bsize n) : badL row = [] := by
  unfold badL
  rw [List.filter_eq_nil_iff]
  intro i hi q
  have hi := List.mem_range.mp hi
  have hm : row.getD i 0 ∈ row := by
    rw [List.getD_eq_getElem?_getD, List.getElem?_eq_getElem hi]
    exact List.getElem_mem hi
  have := h _ hm
  have := of_decide_eq_true q
  omega
theorem badL_first {pre : List Int} {x : Int} {post : List Int} (h : ∀ n ∈ pre, 0 < bsize n) (hx : ¬ 0 < bsize x) : ∃ r, badL (pre ++ x :: post) = pre.length :: r := by
  unfold badL
  rw [List.length_append, List.length_cons, List.range_add, List.filter_append]
  have e1 : ((List.range pre.length).filter fun i => decide (bsize ((pre ++ x :: post).getD i 0) = 0)) = [] := by
    rw [List.filter_eq_nil_iff]
    intro i hi q
    have hi := List.mem_range.mp hi
    have e : (pre ++ x :: post).getD i 0 = pre[i] := by
      rw [List.getD_eq_getElem?_getD, List.getElem?_append_left hi, List.getElem?_eq_getElem hi]; rfl
    rw [e] at q
    have := h _ (List.getElem_mem hi)
    have := of_decide_eq_true q
    omega
  rw [e1, List.nil_append, Nat.add_comm post.length 1, List.range_add, List.map_append]
  have e2 : (pre ++ x :: post).getD (pre.length + 0) 0 = x := by
    rw [List.getD_eq_getElem?_getD, Nat.add_zero, List.getElem?_append_right (Nat.le_refl _), Nat.sub_self]; rfl
  rw [List.filter_append]
  have e3 : ((List.range 1).map fun x => pre.length + x).filter (fun i => decide (bsize ((pre ++ x :: post).getD i 0) = 0)) = [pre.length] := by
    show List.filter _ [pre.length + 0] = _
    rw [List.filter_cons_of_pos]
    · rfl
    · rw [e2]
      have := (bsize_le x).1
      exact decide_eq_true (by omega)
  exact ⟨_, by rw [e3]; rfl⟩
def shortL (row : List Int) : List Nat := (List.range (row.length - 1)).filter fun i => decide (bsize (row.getD i 0) < 4)
theorem bad_iff (row : List Int) : badL row = [] ↔ ∀ n ∈ row, 0 < bsize n := by
  refine ⟨fun h => ?_, badL_nil⟩
  rcases split_bad row with q | ⟨pre, x, post, e, h1, h2⟩
  · exact q
  · obtain ⟨r, hr⟩ := badL_first (post := post) h1 h2
    rw [← e, h] at hr
    cases hr
theorem dropLast_map (row : List Int) : row.dropLast = (List.range (row.length - 1)).map fun i => row.getD i 0 := by
  refine List.ext_getElem? fun i => ?_
  rw [List.getElem?_dropLast]
  by_cases h : i < row.length - 1
  · rw [if_pos h, List.getElem?_map, List.getElem?_range h, List.getElem?_eq_getElem (by omega)]
    show _ = some (row.getD i 0)
    rw [List.getD_eq_getElem?_getD, List.getElem?_eq_getElem (by omega)]
    rfl
  · rw [if_neg h, List.getElem?_eq_none (by simp; omega)]
theorem short_iff (row : List Int) : shortL row = [] ↔ ∀ n ∈ row.dropLast, ¬ bsize n < 4 := by
  unfold shortL
  rw [List.filter_eq_nil_iff, dropLast_map]
  constructor
  · intro h n hn
    obtain ⟨i, hi, rfl⟩ := List.mem_map.mp hn
    exact fun q => h i hi (decide_eq_true q)
  · intro h i hi q
    exact h _ (List.mem_map.mpr ⟨i, hi, rfl⟩) (of_decide_eq_true q)
theorem row_mem {row : List Int} (h : row ≠ []) (n : Int) : n ∈ row ↔ n ∈ row.dropLast ∨ n = row.getLastD 0 := by
  have e : row.getLastD 0 = row.getLast h := by
    rw [List.getLastD_eq_getLast?, List.getLast?_eq_some_getLast h]; rfl
  have e2 : row.dropLast ++ [row.getLast h] = row := List.dropLast_concat_getLast h
  rw [e]
  constructor
  · intro q
    rw [← e2] at q
    rcases List.mem_append.mp q with q | q
    · exact .inl q
    · exact .inr (List.mem_singleton.mp q)
  · intro q
    rcases q with q | q
    · exact List.dropLast_subset _ q
    · rw [q]; exact List.getLast_mem h
theorem fine_is (row : List Int) : (decide (row.length ≤ 255) && (decide ((badL row).length = 0) && decide ((shortL row).length = 0))) = isBlocks row := by
  have key : (row.length ≤ 255 ∧ badL row = [] ∧ shortL row = []) ↔ isBlocks row = true := by
    rw [bad_iff, short_iff]
    constructor
    · rintro ⟨h1, h2, h3⟩
      rw [isBl_end h1 fun n hn => by
        have a := h3 n hn
        have b := (bsize_le n).2
        omega]
      by_cases e : row = []
      · rw [decide_eq_true e]; rfl
      · rw [decide_eq_true (h2 _ ((row_mem e _).mpr (.inr rfl))), Bool.or_true]
    · intro h
      unfold isBlocks at h
      rw [Bool.and_eq_true, Bool.and_eq_true, Bool.or_eq_true] at h
      obtain ⟨⟨h1, h2⟩, h3⟩ := h
      have h2 : ∀ n ∈ row.dropLast, bsize n = 4 := fun n hn => of_decide_eq_true (List.all_eq_true.mp h2 n hn)
      refine ⟨of_decide_eq_true h1, fun n hn => ?_, fun n hn => by rw [h2 n hn]; decide⟩
      have e : row ≠ [] := fun q => by rw [q] at hn; cases hn
      rcases (row_mem e n).mp hn with q | q
      · rw [h2 n q]; decide
      · rcases h3 with h3 | h3
        · exact absurd (of_decide_eq_true h3) e
        · rw [q]; exact of_decide_eq_true h3
  cases hb : isBlocks row with
  | true =>
    obtain ⟨h1, h2, h3⟩ := key.mpr hb
    rw [decide_eq_true h1, h2, h3]
    rfl
  | false =>
    cases hq : (decide (row.length ≤ 255) && (decide ((badL row).length = 0) && decide ((shortL row).length = 0))) with
    | false => rfl
    | true =>
      rw [Bool.and_eq_true, Bool.and_eq_true] at hq
      have := key.mp ⟨of_decide_eq_true hq.1, List.eq_nil_of_length_eq_zero (of_decide_eq_true hq.2.1), List.eq_nil_of_length_eq_zero (of_decide_eq_true hq.2.2)⟩
      rw [hb] at this
      cases this
theorem first_bad : ∀ {p1 p2 : List Int} {x1 x2 : Int} {q1 q2 : List Int}, p1 ++ x1 :: q1 = p2 ++ x2 :: q2 → (∀ n ∈ p1, 0 < bsize n) → ¬ 0 < bsize x1 → (∀ n ∈ p2, 0 < bsize n) → ¬ 0 < bsize x2 → p1 = p2
  | [], [], _, _, _, _, _, _, _, _, _ => rfl
  | [], y :: r, x1, _, _, _, e, _, hx, h2, _ => by
    have e1 : x1 = y := (List.cons.inj e).1
    exact absurd (h2 y (List.mem_cons_self ..)) (e1 ▸ hx)
  | y :: r, [], _, x2, _, _, e, h1, _, _, hx => by
    have e1 : y = x2 := (List.cons.inj e).1
    exact absurd (h1 y (List.mem_cons_self ..)) (e1 ▸ hx)
  | y :: r, z :: s, _, _, _, _, e, h1, hx1, h2, hx2 => by
    have e1 := List.cons.inj e
    rw [e1.1, first_bad e1.2 (fun n hn => h1 n (List.mem_cons_of_mem _ hn)) hx1 (fun n hn => h2 n (List.mem_cons_of_mem _ hn)) hx2]
def tsOut (K : PySem.W.Frag) : Addr → Value → Option Addr → TS := fun a cls d => tSeq (tIfS (tOr (tNot (tB (tCB (rIsP K (cIB K) a cls d) (tCons (tVar 1) (tCons (tC (.ref (cFE K))) tNil)))))
  (tNot (tB (tCB (rIsP K (cIB K) a cls d) (tCons (tVar 1) (tCons (tC (.ty "ValueError")) tNil)))))) (tRet (tC .non)) tNext) (tRet (tPlcErr (cIB K) a cls d (tVar 1)))
def tsOne (K : PySem.W.Frag) : Addr → Value → Option Addr → TS := fun a cls d => tSeq (tIfS (tNot (tB (tCB (rIsP K (cIB K) a cls d) (tCons (tVar 1) (tCons (tC (.ref (cIB K))) tNil))))) (tRet (tC .non)) tNext) (tRet (tPlcErr (cIB K) a cls d (tVar 1)))
local macro_rules | `(tactic| walk_at "dr") => `(tactic| first
  | assumption
  | exact Dr.same (by assumption) (same_new (by assumption))
  | exact Dr.same (Dr.same (by assumption) (same_new (by assumption))) (same_new (by assumption)))
local macro_rules | `(tactic| walk_at "ar") => `(tactic| first | omega | (simp only [List.length_cons, List.length_nil, List.length_map, List.length_append]; omega) | (simp only [List.length_cons, List.length_nil, List.length_map, List.length_append] at *; omega) | decide | assumption)
local macro_rules | `(tactic| walk_at "sl") => `(tactic| first
  | exact Dr.seq (by assumption)
  | assumption
  | exact SqL.of (by assumption)
  | exact SqL.of upd_same)
local macro_rules | `(tactic| walk_at "slt") => `(tactic| first
  | assumption
  | exact SqT.of (by assumption)
  | exact SqT.of upd_same)
local macro_rules | `(tactic| walk_at "size") => `(tactic| first
  | assumption
  | (refine sz_of ?_; first | decide | omega | (simp only [List.length_cons, List.length_nil, List.length_map, List.length_append] at *; omega)))
local macro_rules | `(tactic| walk_at "seq") => `(tactic| first
  | assumption
  | exact .inl (Dr.seq (by assumption))
  | exact .inl (by assumption)
  | exact .inl (SqL.of (by assumption))
  | exact .inr (by assumption)
  | exact .inr (SqT.of (by assumption)))
local macro_rules | `(tactic| walk_at "cond") => `(tactic| first
  | ((with_reducible show CMul _ _); first | exact .inr ⟨by decide, by decide⟩ | exact .inl ⟨by decide, by decide⟩ | exact .inr ⟨by omega, by omega⟩ | exact .inl ⟨by omega, by omega⟩)
  | ((with_reducible show CDivW _ _); first | exact ⟨by decide, by decide⟩ | exact wide_div (b := 60) (by omega) (by omega) (by decide) (by decide))
  | ((with_reducible show CDiv _ _); first | exact ⟨by decide, by decide⟩ | exact ⟨by omega, by omega⟩)
  | ((with_reducible show CPow _ _); exact ⟨by decide, by decide, by decide⟩)
  | (show (0 : Int) < _; first | decide | omega)
  | (show (0 : Int) ≤ _; first | decide | omega))
local macro_rules | `(tactic| walk_at "st1") => `(tactic| first
  | ((with_reducible show tVar _ _ _ _); refine e_var rfl ?_)
  | ((with_reducible show tC _ _ _ _); refine e_c ?_)
  | ((with_reducible show tOp _ _ _ _ _ _); refine e_op ?_)
  | ((with_reducible show rI0 _ _ _ _ _); refine e_I0 ?_)
  | ((with_reducible show rI _ _ _ _ _ _); refine e_I (by walk_at "cond") ?_)
  | ((with_reducible show rEq (V.int _) (V.int _) _ _); refine e_eqI ?_)
  | ((with_reducible show rNe (V.int _) (V.int _) _ _); refine e_neI ?_)
  | ((with_reducible show rEq (V.str _) (V.str _) _ _); refine e_eqS ?_)
  | ((with_reducible show rNe (V.str _) (V.str _) _ _); refine e_neS ?_)
  | ((with_reducible show rEq (V.bl _) (V.bl _) _ _); refine e_eqB ?_)
  | ((with_reducible show rNe (V.bl _) (V.bl _) _ _); refine e_neB ?_)
  | ((with_reducible show rEq _ _ _ _); refine e_eq rfl ?_)
  | ((with_reducible show rNe _ _ _ _); refine e_ne rfl ?_)
  | ((with_reducible show tTest _ _ _ _); refine e_test ?_)
  | ((with_reducible show tB _ _ _ _); refine e_B ?_)
  | ((with_reducible show ∃ k, V.bl _ = V.bl k ∧ _); refine e_ex ?_)
  | ((with_reducible show ∃ k, V.int _ = V.int k ∧ _); refine e_exI ?_)
  | ((with_reducible show tAnd _ _ _ _ _); refine e_and ?_)
  | ((with_reducible show tOr _ _ _ _ _); refine e_or ?_)
  | ((with_reducible show tNot _ _ _ _); refine e_not ?_)
  | ((with_reducible show tYes _ _ _); refine e_yes ?_))
local macro_rules | `(tactic| walk_at "st2") => `(tactic| first
  | ((with_reducible show tAndV _ _ _ _ _); refine e_andV ?_)
  | ((with_reducible show tOrV _ _ _ _ _); refine e_orV ?_)
  | ((with_reducible show tNotV _ _ _ _); refine e_notV ?_)
  | ((with_reducible show tIf _ _ _ _ _ _); refine e_if ?_)
  | ((with_reducible show tChain _ _ _ _ _ _ _ _); refine e_chain ?_)
  | ((with_reducible show tSeq _ _ _ _ _); refine e_seq ?_)
  | ((with_reducible show tNext _ _ _); refine e_next ?_)
  | ((with_reducible show tBreak _ _ _); refine e_break ?_)
  | ((with_reducible show tCont _ _ _); refine e_cont ?_)
  | ((with_reducible show tDrop _ _ _ _); refine e_drop ?_)
  | ((with_reducible show tRet _ _ _ _); refine e_ret ?_)
  | ((with_reducible show tRetN _ _ _); refine e_retN ?_)
  | ((with_reducible show tIfS _ _ _ _ _ _); refine e_ifS ?_)
  | ((with_reducible show tAsg _ _ _ _ _); refine e_asg ?_)
  | ((with_reducible show gName _ _ _ _ _); refine e_name ?_)
  | ((with_reducible show gSub _ _ _ _ _ _ _); refine e_sub ?_)
  | ((with_reducible show tNil _ _ _); refine e_nil ?_)
  | ((with_reducible show tCons _ _ _ _ _); refine e_cons ?_)
  | ((with_reducible show tCall _ _ _ _ _ _ _); refine e_call ?_)
  | ((with_reducible show tCB _ _ _ _ _); refine e_CB ?_)
  | ((with_reducible show tTup _ _ _ _); refine e_tup ?_)
  | ((with_reducible show tLst _ _ _ _); refine e_lst ?_)
  | ((with_reducible show tSl _ _ _ _ _ _ _); refine e_sl ?_)
  | ((with_reducible show tNoPart _ _ _); refine e_noP ?_)
  | ((with_reducible show tPart _ _ _ _); refine e_part ?_)
  | ((with_reducible show tBM _ _ _ _ _ _ _ _); refine e_bm ?_)
  | ((with_reducible show tFor _ _ _ _ _ _); refine e_for ?_)
  | ((with_reducible show iList _ _ _ _ _); refine e_iList ?_)
  | ((with_reducible show iTup _ _ _ _ _); refine e_iTup ?_)
  | ((with_reducible show iStr _ _ _ _); refine e_iStr ?_)
  | ((with_reducible show iRng1 _ _ _ _); refine e_iRng1 ?_)
  | ((with_reducible show iRng2 _ _ _ _); refine e_iRng2 ?_)
  | ((with_reducible show (∃ i', [V.int _] = [V.int i'] ∧ _) ∨ ∃ k, [V.int _] = [V.bl k] ∧ _); refine Or.inl ⟨_, rfl, ?_⟩)
  | ((with_reducible show ∃ p ys, [V.ref _] = [V.ref p] ∧ (SqL _ _ p ys ∨ SqT _ _ p ys) ∧ _); refine ⟨_, _, rfl, (by walk_at "seq"), ?_⟩)
  | ((with_reducible show tLc _ _ _ _ _ _ _ _); refine e_lc ?_)
  | ((with_reducible show tM0 _ _ _ _ _); refine e_m0 ?_)
  | ((with_reducible show tM1 _ _ _ _ _ _); refine e_m1 ?_)
  | ((with_reducible show ∃ k, V.str _ = V.str k ∧ _); refine e_exS ?_)
  | ((with_reducible show ∃ k, V.ref _ = V.ref k ∧ (∃ xs, SqL _ _ k xs) ∧ _); refine e_exR (by walk_at "sl") ?_)
  | ((with_reducible show ∃ k, V.ref _ = V.ref k ∧ (∃ xs, SqT _ _ k xs) ∧ _); refine e_exRT (by walk_at "slt") ?_)
  | ((with_reducible show ∃ j, [V.int _] = [V.int j] ∧ _ ≤ j ∧ j < _ ∧ _); refine e_rng1 (by omega) (by omega) ?_)
  | ((with_reducible show ∃ i j, [V.int _, V.int _] = [V.int i, V.int j] ∧ _ ∧ _); refine e_rng2 (by omega) ?_)
  | ((with_reducible show ∃ z', [V.str _] = [V.str z'] ∧ z'.length ≤ sizeLine ∧ _); refine ⟨_, rfl, (by walk_at "size"), ?_⟩)
  | ((with_reducible show (∃ a, V.str _ = V.str a) ∧ _); refine ⟨⟨_, rfl⟩, ?_⟩)
  | ((with_reducible show rSlS (V.str _) _ _ _ _); refine e_slS (by walk_at "size") ?_)
  | ((with_reducible show wipe _ _ = wipe _ _ ∧ _); refine ⟨rfl, ?_⟩)
  | ((with_reducible show List.length _ ≤ sizeLine ∧ ∀ p, _); refine ⟨(by walk_at "size"), fun p hp => ?_⟩)
  | ((with_reducible show rIsi _ _ _ _); first | refine isi_bb ?_ | refine isi_ib ?_ | refine isi_bi ?_ | refine isi_ii ?_ | refine isi_tt (by assumption) ?_ | refine isi_ll (by assumption) ?_)
  | ((with_reducible show spDraw _ _ _ _ _); refine ⟨_, _, _, rfl, _, _, _, _, rfl, rfl, rfl, (by walk_at "dr"), (by walk_at "ar"), (by walk_at "ar"), ?_⟩)
  | ((with_reducible show tUn _ _ _ _ _); refine e_un ?_)
  | ((with_reducible show rU _ (V.int _) _ _); refine e_U ?_)
  | ((with_reducible show ∃ i, [V.int _] = [V.int i] ∧ _); refine ⟨_, rfl, ?_⟩)
  | ((with_reducible show gTup _ _ _ _ _ _ _); refine ⟨_, _, rfl, (by walk_at "slt"), rfl, ?_⟩)
  | ((with_reducible show gCons _ _ _ _ _ _); refine ⟨_, _, rfl, ?_⟩)
  | ((with_reducible show gNil _ _ _ _); refine ⟨rfl, ?_⟩)
  | ((with_reducible show tAug _ _ _ _ _ _); refine e_aug rfl ?_)
  | ((with_reducible show if true = true then _ else _); refine i_T ?_)
  | ((with_reducible show if false = true then _ else _); refine i_F ?_))
local macro_rules | `(tactic| walk_at "st") => `(tactic| first | walk_at "st1" | walk_at "st2" | (dsimp only [List.append_nil, List.nil_append, List.cons_append, Bool.not_true, Bool.not_false]))
local macro_rules | `(tactic| walk_at "go") => `(tactic| repeat walk_at "st")
local macro_rules | `(tactic| walk_at "st") => `(tactic| first
  | ((with_reducible show iRevR _ _ _ _); refine e_iRevR ?_)
  | ((with_reducible show tRg1 _ _ _ _); refine e_rg1 ?_)
  | ((with_reducible show tRg2 _ _ _ _ _); refine e_rg2 ?_)
  | ((with_reducible show iEnum _ _ _ _ _); refine e_iEnum ?_)
  | ((with_reducible show iEnumT _ _ _ _ _); refine e_iEnumT ?_)
  | ((with_reducible show iRng3 _ _ _ _); refine e_iRng3 ?_)
  | ((with_reducible show ∃ p ys, [V.ref _] = [V.ref p] ∧ SqL _ _ p ys ∧ _); refine ⟨_, _, rfl, (by walk_at "sl"), ?_⟩)
  | ((with_reducible show ∃ p ys, [V.ref _] = [V.ref p] ∧ SqT _ _ p ys ∧ _); refine ⟨_, _, rfl, (by walk_at "slt"), ?_⟩)
  | ((with_reducible show tyV _ "list" (V.ref _) _ ∧ _); refine ⟨.inl ⟨rfl, _, (by walk_at "sl")⟩, ?_⟩)
  | ((with_reducible show ∃ a b, V.bl _ = V.bl a ∧ V.bl _ = V.bl b ∧ _); refine ⟨_, _, rfl, rfl, ?_⟩)
  | ((with_reducible show ∃ c, V.bl _ = V.bl c ∧ _); refine ⟨_, rfl, ?_⟩)
  | ((with_reducible show if (!true) = true then _ else _); refine i_F ?_)
  | ((with_reducible show if (!false) = true then _ else _); refine i_T ?_))
local macro_rules | `(tactic| walk_at "st") => `(tactic| first
  | ((with_reducible show tRaiseErr _ _ _ _ _ _); refine e_raiseErr ?_)
  | ((with_reducible show tCallS _ _ _ _ _ _); refine e_callS ?_)
  | ((with_reducible show tPlcErr _ _ _ _ _ _ _ _); refine e_plcErr ?_)
  | ((with_reducible show ∃ v, [_] = [v] ∧ ∀ d, _); refine ⟨_, rfl, ?_⟩))
section
variable {P : Program} {w : World} {K : PySem.W.Frag} {mg : Str → Option Value} {base : Heap}
theorem ok_block_size (T : Txt K mg)  {f : Addr} {fd : FuncData} (F : FnP K "block_size" s_block_size f fd) : FnOk P w K mg base CX0 1 f fd ["number"] (sp_block_size K) := by
  refine F.ok sc_block_size (fun vs H Q E h => ?_) (fun cdv A outer s H vs Q E hr h => ?_)
  · obtain ⟨_, rfl, _⟩ := h
    rfl
  · have S := sc_block_size
    refine ⟨_, PSs.nox (pss_cons (ps_for PassesOwn.never rfl (pi_range2 (by rfl) T.f_range (pa_cons pe_int (pa_cons (pe_op op_add (C8.pe_gc (by rfl) T.c_BLOCK) pe_int) pa_nil))) (pg_name (i := 1) S.nd rfl (by first | exact .inl rfl | exact .inr rfl))
    (pss_one (ps_if (pt_cmpR op_eq (pe_op op_shr (pv 0) (pe_op op_mul pe_int (pv 1))) pe_int (nomark _))
      (pss_one (ps_ret (pv 1)))
      pss_nil)))
    (pss_one (ps_ret pe_int))), ?_⟩
    try dsimp only [cxOf, Cx.nox]
    obtain ⟨_, rfl, n, rfl, k⟩ := h
    walk_at "go"
    refine for_rng (fun i σ H1 => (∃ v1, σ = [some (.int n), v1]) ∧ H1 = H ∧ (1 ≤ i → ¬ n / 256 = 1) ∧ (2 ≤ i → ¬ n / 65536 = 1) ∧ (3 ≤ i → ¬ n / 16777216 = 1) ∧ (4 ≤ i → ¬ n / 4294967296 = 1)) ⟨⟨_, rfl⟩, rfl, by omega, by omega, by omega, by omega⟩ (fun i σ H1 hi q => ?_) (fun σ H1 q => ?_)
    · obtain ⟨⟨v1, rfl⟩, rfl, q1, q2, q3, q4⟩ := q
      have hi4 : i < 4 := hi
      walk_at "go"
      match i, hi4 with
      | 0, _ =>
        show if decide (n / 256 = 1) = true then _ else _
        refine i_d (fun h1 => ?_) (fun h1 => ?_)
        · walk_at "go"
          have e : bsize n = 1 := by unfold bsize; rw [if_pos h1]
          rw [e] at k
          exact k
        · walk_at "go"
          exact ⟨⟨_, rfl⟩, rfl, fun _ => h1, by omega, by omega, by omega⟩
      | 1, _ =>
        show if decide (n / 65536 = 1) = true then _ else _
        refine i_d (fun h1 => ?_) (fun h1 => ?_)
        · walk_at "go"
          have e : bsize n = 2 := by unfold bsize; rw [if_neg (q1 (by omega)), if_pos h1]
          rw [e] at k
          exact k
        · walk_at "go"
          exact ⟨⟨_, rfl⟩, rfl, fun _ => q1 (by omega), fun _ => h1, by omega, by omega⟩
      | 2, _ =>
        show if decide (n / 16777216 = 1) = true then _ else _
        refine i_d (fun h1 => ?_) (fun h1 => ?_)
        · walk_at "go"
          have e : bsize n = 3 := by unfold bsize; rw [if_neg (q1 (by omega)), if_neg (q2 (by omega)), if_pos h1]
          rw [e] at k
          exact k
        · walk_at "go"
          exact ⟨⟨_, rfl⟩, rfl, fun _ => q1 (by omega), fun _ => q2 (by omega), fun _ => h1, by omega⟩
      | 3, _ =>
        show if decide (n / 4294967296 = 1) = true then _ else _
        refine i_d (fun h1 => ?_) (fun h1 => ?_)
        · walk_at "go"
          have e : bsize n = 4 := by unfold bsize; rw [if_neg (q1 (by omega)), if_neg (q2 (by omega)), if_neg (q3 (by omega)), if_pos h1]
          rw [e] at k
          exact k
        · walk_at "go"
          exact ⟨⟨_, rfl⟩, rfl, fun _ => q1 (by omega), fun _ => q2 (by omega), fun _ => q3 (by omega), fun _ => h1⟩
    · obtain ⟨⟨v1, rfl⟩, rfl, q1, q2, q3, q4⟩ := q
      walk_at "go"
      have e : bsize n = 0 := by unfold bsize; rw [if_neg (q1 (by decide)), if_neg (q2 (by decide)), if_neg (q3 (by decide)), if_neg (q4 (by decide))]
      rw [e] at k
      exact k
theorem ok_is_block (T : Txt K mg) (c_block_size : Cal P w K mg base 1 "block_size" (sp_block_size K)) {f : Addr} {fd : FuncData} (F : FnP K "is_block" s_is_block f fd) : FnOk P w K mg base CX0 2 f fd ["number"] (sp_is_block K) := by
  refine F.ok sc_is_block (fun vs H Q E h => ?_) (fun cdv A outer s H vs Q E hr h => ?_)
  · obtain ⟨_, rfl, _⟩ := h
    rfl
  · have S := sc_is_block
    refine ⟨_, PSs.nox (pss_one (ps_ret (pe_cmpR op_gt (pe_c c_block_size hr (by decide) (by rfl) (pa_cons (pv 0) pa_nil)) pe_int (nomark _)))), ?_⟩
    try dsimp only [cxOf, Cx.nox]
    obtain ⟨_, rfl, n, rfl, k⟩ := h
    walk_at "go"
    refine ⟨_, rfl, n, rfl, ?_⟩
    walk_at "go"
    exact k
theorem ok_block_bytes (T : Txt K mg) (c_block_size : Cal P w K mg base 1 "block_size" (sp_block_size K)) {f : Addr} {fd : FuncData} (F : FnP K "block_bytes" s_block_bytes f fd) : FnOk P w K mg base (L2.CX P w) 3 f fd ["number"] (sp_block_bytesX K) := by
  refine F.ok sc_block_bytes (fun vs H Q E h => ?_) (fun cdv A outer s H vs Q E hr h => ?_)
  · obtain ⟨_, rfl, _⟩ := h
    rfl
  · have S := sc_block_bytes
    refine ⟨_, (pss_cons (ps_set (i := 1) S.nd rfl (by first | exact .inl rfl | exact .inr rfl) (pe_c c_block_size hr (by decide) (by rfl) (pa_cons (pv 0) pa_nil)))
    (pss_cons (ps_if (pt_cmpR op_eq (pv 1) pe_int (nomark _))
    (pss_one (ps_raiseErr rfl T.er_InvalidBlock.er hr (takes_of rfl rfl rfl rfl) (pa_cons pe_int pa_nil)))
    pss_nil)
    (PSs.nox (pss_one (ps_ret (pe_lc (own := [("behind", 2)]) (g := gName 2) (tt := tYes) rfl S.nd (pi_revR (by rfl) T.f_reversed (prg_1 (by rfl) T.f_range (pv 1))) (blkOk_by (N := N_block_bytes) (sc := defScope s_block_bytes) (by decide +kernel)) (fun _ _ _ _ _ => (pg_name (i := 2) S.nd rfl (by first | exact .inl rfl | exact .inr rfl))) (fun _ _ _ _ _ => pts_nil) (fun _ _ _ _ _ => (pe_op op_andM (pe_op op_shr (pv 0) (pe_op op_mul pe_int (pv 2))) pe_int)))))))), ?_⟩
    try dsimp only [cxOf, Cx.nox]
    obtain ⟨_, rfl, n, rfl, k1, k2⟩ := h
    walk_at "go"
    refine ⟨_, rfl, n, rfl, ?_⟩
    walk_at "go"
    refine i_d (fun h1 => ?_) (fun h1 => ?_)
    · walk_at "go"
      exact fun d hd => k2 (by omega) d hd
    have hn : 0 < bsize n := by have := (bsize_le n).1; omega
    have h4 := (bsize_le n).2
    have k := k1 hn
    walk_at "go"
    refine ⟨by omega, by omega, by omega, by omega, ?_⟩
    intro D hD
    refine lc_map_rngC hD (by omega) (fun i => .int ((bbytes n).getD i 0)) (fun i H2 C E hi s2 hC => ?_) (fun H2 s2 e2 => ?_)
    · walk_at "go"
      refine ⟨_, 8, rfl, rfl, ?_⟩
      rw [byte_at hn hi]
      exact hC H2 (Same.refl H2)
    · refine k D H2 hD s2 ?_
      rw [e2, show (bsize n - 0).toNat = (bbytes n).length by rw [bbytes_length hn]; omega, map_getD]
theorem ok_joined (T : Txt K mg) (c_is_block : Cal P w K mg base 2 "is_block" (sp_is_block K)) (c_block_bytes : CalX P w K mg base 3 "block_bytes" (sp_block_bytesX K)) {f : Addr} {fd : FuncData} (F : FnP K "joined" s_joined f fd) : FnOk P w K mg base (L2.CX P w) 4 f fd ["numbers"] (sp_joined K) := by
  refine F.ok sc_joined (fun vs H Q E h => ?_) (fun cdv A outer s H vs Q E hr h => ?_)
  · obtain ⟨_, rfl, _⟩ := h
    rfl
  · have S := sc_joined
    refine ⟨_, (pss_cons (ps_set (i := 1) S.nd rfl (by first | exact .inl rfl | exact .inr rfl) (pe_lst pa_nil))
    (pss_cons (ps_for (passes_of rfl) rfl (pi_or (pi_enum (by rfl) T.f_enumerate (pa_cons (pv 0) pa_nil)) (pi_enumT (by rfl) T.f_enumerate (pa_cons (pv 0) pa_nil))) (pg_tup rfl (pgs_cons (pg_name (i := 2) S.nd rfl (by first | exact .inl rfl | exact .inr rfl)) (pgs_cons (pg_name (i := 3) S.nd rfl (by first | exact .inl rfl | exact .inr rfl)) pgs_nil)))
    (pss_cons (ps_if (pt_not (pt_val (pe_c c_is_block hr (by decide) (by rfl) (pa_cons (pv 3) pa_nil))))
      (pss_one (ps_raiseErr rfl T.er_InvalidBlock.er hr (takes_of rfl rfl rfl rfl) (pa_cons (pv 2) pa_nil)))
      pss_nil)
      (pss_one (ps_expr (pe_bm PySem.F.plainAttrs_list PySem.F.slot_list_extend PySem.F.type_list_extend mt_extend (pv 1) (pa_cons (pe_cX c_block_bytes hr (by decide) (takes_of rfl rfl rfl rfl) (by rfl) (pa_cons (pv 3) pa_nil)) pa_nil))))))
    (PSs.nox (pss_one (ps_ret (pv 1)))))), ?_⟩
    try dsimp only [cxOf, Cx.nox]
    obtain ⟨_, rfl, p, ns, rfl, hS, hl, k1, k2⟩ := h
    walk_at "go"
    rename_i D hD
    have sD : Same H (upd H D (.lst [])) := same_new hD
    rcases hS with hS | hS
    · refine .inl ?_
      walk_at "go"
      refine ⟨p, ns.map V.int, rfl, sD.seq hS, ?_⟩
      refine for_enumI (ns := ns) (fun pre σ H1 => (∃ v2 v3, σ = [some (.ref p), some (.ref D), v2, v3]) ∧ Same H H1 ∧ H1 D = some (.lst ((pre.flatMap bbytes).map V.int)) ∧ ∀ n ∈ pre, 0 < bsize n) ⟨⟨_, _, rfl⟩, sD, upd_same, fun n hn => by cases hn⟩ (fun pre σ H1 q => q.2.1.seq hS) (fun pre x post t σ H1 e q ht => ?_) (fun σ H1 q => ?_)
      · obtain ⟨⟨v2, v3, rfl⟩, s1, e1, g1⟩ := q
        have s2 : Same H1 (upd H1 t (.tup [.int (pre.length : Nat), .int x])) := same_new ht
        walk_at "go"
        refine ⟨_, rfl, x, rfl, ?_⟩
        walk_at "go"
        refine i_nd (fun h1 => ?_) (fun h1 => ?_)
        · walk_at "go"
          exact fun d hd => k2 pre x post e g1 h1 d _ (s1.trans s2) hd
        walk_at "go"
        have e3 := s2 _ _ e1
        refine ⟨.inl ⟨rfl, _, SqL.of e3⟩, ?_⟩
        walk_at "go"
        refine ⟨_, rfl, x, rfl, fun _ r H3 hr s3 e4 => ?_, fun z => absurd h1 z⟩
        walk_at "go"
        have hlen : (pre.flatMap bbytes).length ≤ 80000 := by
          have h5 := flat_len pre
          have h6 : pre.length ≤ ns.length := by rw [e]; simp
          omega
        refine e_ext (s3 _ _ e3) e4 (sz_of (by rw [List.length_map, List.length_map]; have := bbytes_len x; omega)) ?_
        refine ⟨⟨some (.int (pre.length : Nat)), some (.int x), rfl⟩, Same.mut ((s1.trans s2).trans s3) hD, ?_, fun n hn => ?_⟩
        · rw [upd_same, List.flatMap_append, List.map_append]
          simp
        · rcases List.mem_append.mp hn with hn | hn
          · exact g1 n hn
          · rw [List.mem_singleton.mp hn]; exact h1
      · obtain ⟨⟨v2, v3, rfl⟩, s1, e1, g1⟩ := q
        walk_at "go"
        exact k1 g1 D H1 hD s1 e1
    · refine .inr ?_
      walk_at "go"
      refine ⟨p, ns.map V.int, rfl, same_tup sD hS, ?_⟩
      refine for_enumIT (ns := ns) (fun pre σ H1 => (∃ v2 v3, σ = [some (.ref p), some (.ref D), v2, v3]) ∧ Same H H1 ∧ H1 D = some (.lst ((pre.flatMap bbytes).map V.int)) ∧ ∀ n ∈ pre, 0 < bsize n) ⟨⟨_, _, rfl⟩, sD, upd_same, fun n hn => by cases hn⟩ (fun pre σ H1 q => same_tup q.2.1 hS) (fun pre x post t σ H1 e q ht => ?_) (fun σ H1 q => ?_)
      · obtain ⟨⟨v2, v3, rfl⟩, s1, e1, g1⟩ := q
        have s2 : Same H1 (upd H1 t (.tup [.int (pre.length : Nat), .int x])) := same_new ht
        walk_at "go"
        refine ⟨_, rfl, x, rfl, ?_⟩
        walk_at "go"
        refine i_nd (fun h1 => ?_) (fun h1 => ?_)
        · walk_at "go"
          exact fun d hd => k2 pre x post e g1 h1 d _ (s1.trans s2) hd
        walk_at "go"
        have e3 := s2 _ _ e1
        refine ⟨.inl ⟨rfl, _, SqL.of e3⟩, ?_⟩
        walk_at "go"
        refine ⟨_, rfl, x, rfl, fun _ r H3 hr s3 e4 => ?_, fun z => absurd h1 z⟩
        walk_at "go"
        have hlen : (pre.flatMap bbytes).length ≤ 80000 := by
          have h5 := flat_len pre
          have h6 : pre.length ≤ ns.length := by rw [e]; simp
          omega
        refine e_ext (s3 _ _ e3) e4 (sz_of (by rw [List.length_map, List.length_map]; have := bbytes_len x; omega)) ?_
        refine ⟨⟨some (.int (pre.length : Nat)), some (.int x), rfl⟩, Same.mut ((s1.trans s2).trans s3) hD, ?_, fun n hn => ?_⟩
        · rw [upd_same, List.flatMap_append, List.map_append]
          simp
        · rcases List.mem_append.mp hn with hn | hn
          · exact g1 n hn
          · rw [List.mem_singleton.mp hn]; exact h1
      · obtain ⟨⟨v2, v3, rfl⟩, s1, e1, g1⟩ := q
        walk_at "go"
        exact k1 g1 D H1 hD s1 e1
theorem ok_is_blocks (T : Txt K mg) (c_block_size : Cal P w K mg base 1 "block_size" (sp_block_size K)) (c_is_block : Cal P w K mg base 2 "is_block" (sp_is_block K)) {f : Addr} {fd : FuncData} (F : FnP K "is_blocks" s_is_blocks f fd) : FnOk P w K mg base CX0 3 f fd ["numbers"] (sp_is_blocks K) := by
  refine F.ok sc_is_blocks (fun vs H Q E h => ?_) (fun cdv A outer s H vs Q E hr h => ?_)
  · obtain ⟨_, rfl, _⟩ := h
    rfl
  · have S := sc_is_blocks
    refine ⟨_, PSs.nox (pss_cons (ps_if (pt_cmpR op_gt (pe_callB call_len_seq (by rfl) T.f_len (by first | rfl | decide +kernel) (pa_cons (pv 0) pa_nil)) (C8.pe_gc (by rfl) T.c__MOST_BLOCKS) (nomark _))
    (pss_one (ps_ret pe_bl))
    pss_nil)
    (pss_cons (ps_for PassesOwn.never rfl (pi_or (pi_list (pe_slice (SlR.or sl_list sl_tupA) (pv 0) po_none (po_some (pe_un un_neg pe_int)))) (pi_tup (pe_slice (SlR.or sl_list sl_tupA) (pv 0) po_none (po_some (pe_un un_neg pe_int))))) (pg_name (i := 1) S.nd rfl (by first | exact .inl rfl | exact .inr rfl))
    (pss_one (ps_if (pt_cmpR op_ne (pe_c c_block_size hr (by decide) (by rfl) (pa_cons (pv 1) pa_nil)) (C8.pe_gc (by rfl) T.c_BLOCK) (nomark _))
      (pss_one (ps_ret pe_bl))
      pss_nil)))
    (pss_one (ps_ret (pe_or (pe_cmpR op_eq (pe_callB call_len_seq (by rfl) T.f_len (by first | rfl | decide +kernel) (pa_cons (pv 0) pa_nil)) pe_int (nomark _)) (pe_one (pe_c c_is_block hr (by decide) (by rfl) (pa_cons (pe_ix (IxR.or ix_list ix_tup) (pv 0) (pe_un un_neg pe_int) (fun _ _ => rfl)) pa_nil)))))))), ?_⟩
    try dsimp only [cxOf, Cx.nox]
    obtain ⟨_, rfl, p, ns, rfl, hS, k⟩ := h
    walk_at "go"
    rw [List.length_map]
    refine i_d (fun h1 => ?_) (fun h1 => ?_)
    · walk_at "go"
      have e := isBl_long (ns := ns) (by omega)
      rw [e] at k
      exact k H (Same.refl H)
    walk_at "go"
    have fin : ∀ (v : Option V) (H' : Hp) (D : Ends), D.rt = Q → Same H H' → (∀ n ∈ ns.dropLast, bsize n = 4) → tRet (tOrV (tOp rEq (tCB (fun xs H Q => ∃ p ys, xs = [V.ref p] ∧ (SqL K H p ys ∨ SqT K H p ys) ∧ Q (V.int ys.length) H) (tCons (tVar 0) tNil)) (tC (.int 0))) (tCall (sp_is_block K) [] E0 (tCons (tOp (fun x y H Q => rIxL K x y H Q ∨ rIxT K x y H Q) (tVar 0) (tUn (rU fun i => V.int (-i)) (tC (.int 1)))) tNil))) D [some (.ref p), v] H' := by
      intro v H' D hD s1 hb
      have e := isBl_end (ns := ns) (by omega) hb
      have h2 := Same.seqE s1 hS
      walk_at "go"
      rw [List.length_map]
      by_cases h3 : ns = []
      · rw [e, h3, decide_eq_true rfl, Bool.true_or] at k
        rw [h3]
        walk_at "go"
        rw [hD]
        exact k H' s1
      · have h4 : ¬ (((ns.length : Nat) : Int) = 0) := by
          intro q
          exact h3 (List.eq_nil_of_length_eq_zero (by omega))
        rw [decide_eq_false h4]
        walk_at "go"
        refine e_ixE h2 (last_at h3) ?_
        walk_at "go"
        refine ⟨_, rfl, _, rfl, ?_⟩
        walk_at "go"
        rw [e, decide_eq_false h3, Bool.false_or] at k
        rw [hD]
        exact k H' s1
    rcases hS with hS | hS
    · refine .inl ?_
      walk_at "go"
      refine .inl (e_slL hS fun r hr => ?_)
      rw [cut_last, map_dropLast]
      have s1 := same_new (o := .lst (ns.dropLast.map V.int)) hr
      walk_at "go"
      refine for_ints (ns := ns.dropLast) (fun pre σ H1 => (∃ v, σ = [some (.ref p), v]) ∧ Same H H1 ∧ SqL K H1 r (ns.dropLast.map V.int) ∧ ∀ n ∈ pre, bsize n = 4) ⟨⟨_, rfl⟩, s1, SqL.of upd_same, fun n hn => by cases hn⟩ (fun pre σ H1 q => q.2.2.1) (fun pre x post σ H1 e q => ?_) (fun σ H1 q => ?_)
      · obtain ⟨⟨v, rfl⟩, q1, q2, q3⟩ := q
        walk_at "go"
        refine ⟨_, rfl, _, rfl, ?_⟩
        walk_at "go"
        refine i_nd (fun h2 => ?_) (fun h2 => ?_)
        · walk_at "go"
          have e := isBl_bad (ns := ns) (x := x) (by rw [e]; simp) h2
          rw [e] at k
          exact k _ q1
        · walk_at "go"
          exact ⟨⟨_, rfl⟩, q1, q2, fun n hn => by
            rcases List.mem_append.mp hn with h | h
            · exact q3 n h
            · rw [List.mem_singleton.mp h]; exact h2⟩
      · obtain ⟨⟨v, rfl⟩, q1, q2, q3⟩ := q
        exact fin v H1 _ rfl q1 q3
    · refine .inr ?_
      walk_at "go"
      refine .inr (e_slA hS fun r H0 s1 hr => ?_)
      rw [cut_last, map_dropLast] at hr
      walk_at "go"
      refine for_intsT (ns := ns.dropLast) (fun pre σ H1 => (∃ v, σ = [some (.ref p), v]) ∧ Same H H1 ∧ SqT K H1 r (ns.dropLast.map V.int) ∧ ∀ n ∈ pre, bsize n = 4) ⟨⟨_, rfl⟩, s1, hr, fun n hn => by cases hn⟩ (fun pre σ H1 q => q.2.2.1) (fun pre x post σ H1 e q => ?_) (fun σ H1 q => ?_)
      · obtain ⟨⟨v, rfl⟩, q1, q2, q3⟩ := q
        walk_at "go"
        refine ⟨_, rfl, _, rfl, ?_⟩
        walk_at "go"
        refine i_nd (fun h2 => ?_) (fun h2 => ?_)
        · walk_at "go"
          have e := isBl_bad (ns := ns) (x := x) (by rw [e]; simp) h2
          rw [e] at k
          exact k _ q1
        · walk_at "go"
          exact ⟨⟨_, rfl⟩, q1, q2, fun n hn => by
            rcases List.mem_append.mp hn with h | h
            · exact q3 n h
            · rw [List.mem_singleton.mp h]; exact h2⟩
      · obtain ⟨⟨v, rfl⟩, q1, q2, q3⟩ := q
        exact fin v H1 _ rfl q1 q3
theorem ok_law_draw (T : Txt K mg)  {f : Addr} {fd : FuncData} (F : FnP K "_law_draw" s_law_draw f fd) : FnOk P w K mg base CX0 1 f fd ["state", "script", "size"] (spDraw K) := by
  refine F.ok sc_law_draw (fun vs H Q E h => ?_) (fun cdv A outer s H vs Q E hr h => ?_)
  · obtain ⟨_, _, _, rfl, _⟩ := h
    rfl
  · have S := sc_law_draw
    refine ⟨_, PSs.nox (C8.pss_cut (ps_if (pt_cmpR op_eq (pe_ix ix_list (pv 0) pe_int (fun _ _ => rfl)) pe_int (nomark _))
    (pss_cons (ps_set (i := 3) S.nd rfl (by first | exact .inl rfl | exact .inr rfl) (pe_ix ix_list (pv 0) pe_int (fun _ _ => rfl)))
      (pss_cons (ps_set (i := 4) S.nd rfl (by first | exact .inl rfl | exact .inr rfl) pe_int)
      (C8.pss_cut (ps_if (pt_cmpR op_gt (pe_callB call_len_seq (by rfl) T.f_len (by first | rfl | decide +kernel) (pa_cons (pv 1) pa_nil)) pe_int (nomark _))
      (pss_one (ps_set (i := 4) S.nd rfl (by first | exact .inl rfl | exact .inr rfl) (pe_callTy call_int1 (by rfl) T.f_int (by first | rfl | decide +kernel) (pa_cons (pe_ix ix_list (pv 1) (pe_op op_mod (pv 3) (pe_callB call_len_seq (by rfl) T.f_len (by first | rfl | decide +kernel) (pa_cons (pv 1) pa_nil))) (fun _ _ => rfl)) pa_nil))))
      pss_nil)
      (C8.pss_cut (ps_if (pt_cmpR op_lt (pv 4) pe_int (nomark _))
      (pss_one (ps_set (i := 4) S.nd rfl (by first | exact .inl rfl | exact .inr rfl) (pe_op op_sub pe_int (pe_op op_mul pe_int (pv 4)))))
      pss_nil)
      (C8.pss_cut (ps_if (pw_and (pt_cmpR op_ge (pv 4) (pe_op op_pow pe_int pe_int) (nomark _)) (pw_and1 (pt_cmpR op_lt (pv 3) (pe_callB call_len_seq (by rfl) T.f_len (by first | rfl | decide +kernel) (pa_cons (pv 1) pa_nil)) (nomark _)))).pt
      (pss_one (ps_asg (pv 4) (pg_sub (pv 0) pe_int set_list)))
      (pss_cons (ps_set (i := 5) S.nd rfl (by first | exact .inl rfl | exact .inr rfl) (pe_op op_mod (pe_callTy call_int1 (by rfl) T.f_int (by first | rfl | decide +kernel) (pa_cons (pe_op op_add (pe_op op_add (pe_op op_mul (pv 4) pe_int) (pe_op op_mul (pv 3) pe_int)) pe_int) pa_nil)) pe_int))
        (pss_one (ps_asg (pe_op op_add pe_int (pe_op op_mod (pe_callTy call_int1 (by rfl) T.f_int (by first | rfl | decide +kernel) (pa_cons (pe_op op_add (pe_op op_mul (pv 5) pe_int) (pe_op op_mul (pv 3) pe_int)) pa_nil)) pe_int)) (pg_sub (pv 0) pe_int set_list)))))
      (pss_one (ps_asg (pe_op op_add (pv 3) pe_int) (pg_sub (pv 0) pe_int set_list))))))))
    pss_nil)
    (pss_cons (ps_set (i := 6) S.nd rfl (by first | exact .inl rfl | exact .inr rfl) (pe_op op_mod (pe_callTy call_int1 (by rfl) T.f_int (by first | rfl | decide +kernel) (pa_cons (pe_ix ix_list (pv 0) pe_int (fun _ _ => rfl)) pa_nil)) (pv 2)))
    (pss_cons (ps_asg (pe_op op_fdivW (pe_ix ix_list (pv 0) pe_int (fun _ _ => rfl)) (pv 2)) (pg_sub (pv 0) pe_int set_list))
    (pss_one (ps_ret (pv 6)))))), ?_⟩
    try dsimp only [cxOf, Cx.nox]
    obtain ⟨_, _, _, rfl, st, sc, ns, n, rfl, rfl, rfl, d, hn0, hn1, k⟩ := h
    obtain ⟨ia, ib, ha0, hb0, hs⟩ := d.s
    have h1 : ∀ (x y : Int), 0 ≤ x → 0 ≤ y → Kp st H (upd H st (.lst [.int x, .int y])) ∧ Dr K st sc ns (upd H st (.lst [.int x, .int y])) := fun x y hx hy =>
      have k1 : Kp st H (upd H st (.lst [.int x, .int y])) := Kp.put (Kp.refl st H)
      ⟨k1, d.kp k1 ⟨x, y, hx, hy, upd_same⟩⟩
    refine e_cut (Mid := fun σ' H' => ∃ (v3 v4 v5 : Option V), σ' = [some (.ref st), some (.ref sc), some (.int n), v3, v4, v5, none] ∧ Kp st H H' ∧ Dr K st sc ns H') ?_ ?_
    · walk_at "go"
      refine e_ixL (SqL.of hs) rfl ?_
      walk_at "go"
      refine i_d (fun e => ?_) (fun e => ?_)
      · walk_at "go"
        refine e_ixL (SqL.of hs) rfl ?_
        walk_at "go"
        -- cell = int(script[at % len(script)])
        refine e_cut (Mid := fun σ' H' => ∃ c : Int, σ' = [some (.ref st), some (.ref sc), some (.int n), some (.int ia), some (.int c), none, none] ∧ H' = H) ?_ ?_
        · walk_at "go"
          refine i_d (fun e2 => ?_) (fun e2 => ?_)
          · walk_at "go"
            have hm : 0 ≤ ia % (((ns.map V.int).length : Nat) : Int) := Int.emod_nonneg _ (by omega)
            have hm2 : ia % (((ns.map V.int).length : Nat) : Int) < (((ns.map V.int).length : Nat) : Int) := Int.emod_lt_of_pos _ (by omega)
            have hlt : (ia % (((ns.map V.int).length : Nat) : Int)).toNat < ns.length := by rw [List.length_map] at hm hm2 ⊢; omega
            refine e_ixL (v := .int ns[(ia % (((ns.map V.int).length : Nat) : Int)).toNat]) d.seq (at_of (j := (ia % (((ns.map V.int).length : Nat) : Int)).toNat) (by omega) (by rw [List.getElem?_map, List.getElem?_eq_getElem hlt]; rfl)) ?_
            walk_at "go"
            exact ⟨_, rfl, rfl⟩
          · walk_at "go"
            exact ⟨_, rfl, rfl⟩
        · rintro σ' H' ⟨c, rfl, rfl⟩
          refine e_cut (Mid := fun σ' H'' => ∃ c : Int, 0 ≤ c ∧ σ' = [some (.ref st), some (.ref sc), some (.int n), some (.int ia), some (.int c), none, none] ∧ H'' = H') ?_ ?_
          · walk_at "go"
            refine i_d (fun e2 => ?_) (fun e2 => ?_)
            · walk_at "go"
              exact ⟨_, by omega, rfl, rfl⟩
            · walk_at "go"
              exact ⟨_, by omega, rfl, rfl⟩
          · rintro σ' H'' ⟨c, hc, rfl, rfl⟩
            refine e_cut (Mid := fun σ' H3 => ∃ (v5 : Option V) (b : Int), 0 ≤ b ∧ σ' = [some (.ref st), some (.ref sc), some (.int n), some (.int ia), some (.int c), v5, none] ∧ H3 = upd H'' st (.lst [.int ia, .int b])) ?_ ?_
            · walk_at "go"
              have fin : ∀ (v5 : Option V) (b : Int), 0 ≤ b → ∃ (v5' : Option V) (b' : Int), 0 ≤ b' ∧ [some (V.ref st), some (V.ref sc), some (V.int n), some (V.int ia), some (V.int c), v5, none] = [some (.ref st), some (.ref sc), some (.int n), some (.int ia), some (.int c), v5', none] ∧ upd H'' st (HO.lst [V.int ia, V.int b]) = upd H'' st (.lst [.int ia, .int b']) := fun v5 b hb => ⟨v5, b, hb, rfl, rfl⟩
              have other : ∀ x : Int, 0 ≤ 1 + x % 2305843009213693951 := fun x => by
                have := Int.emod_nonneg x (show (2305843009213693951 : Int) ≠ 0 by decide)
                omega
              refine i_d (fun e2 => ?_) (fun e2 => ?_)
              · walk_at "go"
                refine i_d (fun e3 => ?_) (fun e3 => ?_)
                · walk_at "go"
                  refine e_setL hs rfl ?_
                  exact ⟨none, c, hc, rfl, by rw [e]; rfl⟩
                · walk_at "go"
                  refine e_setL hs rfl ?_
                  exact ⟨_, _, other _, rfl, rfl⟩
              · walk_at "go"
                refine e_setL hs rfl ?_
                exact ⟨_, _, other _, rfl, rfl⟩
            · rintro σ' H3 ⟨v5, b, hb, rfl, rfl⟩
              walk_at "go"
              refine e_setL upd_same rfl ?_
              rw [upd_upd]
              obtain ⟨k1, d1⟩ := h1 (ia + 1) b (by omega) hb
              exact ⟨_, _, _, rfl, k1, d1⟩
      · walk_at "go"
        exact ⟨_, _, _, rfl, Kp.refl _ _, d⟩
    · rintro σ' H' ⟨v3, v4, v5, rfl, k1, d1⟩
      obtain ⟨ja, jb, hja, hjb, hs1⟩ := d1.s
      walk_at "go"
      refine e_ixL (SqL.of hs1) rfl ?_
      walk_at "go"
      refine e_ixL (SqL.of hs1) rfl ?_
      walk_at "go"
      refine e_setL hs1 rfl ?_
      have hj2 : 0 ≤ jb / n := Int.ediv_nonneg hjb (by omega)
      have k2 : Kp st H (upd H' st (.lst [.int ja, .int (jb / n)])) := k1.put
      walk_at "go"
      exact k _ _ (Int.emod_nonneg _ (by omega)) (Int.emod_lt_of_pos _ hn0) k2 (d.kp k2 ⟨ja, jb / n, hja, hj2, upd_same⟩)
theorem ok_law_integers (T : Txt K mg)  {f : Addr} {fd : FuncData} (F : FnP K "_law_integers" s_law_integers f fd) : FnOk P w K mg base CX0 1 f fd ["row"] (sp_law_integers K) := by
  refine F.ok sc_law_integers (fun vs H Q E h => ?_) (fun cdv A outer s H vs Q E hr h => ?_)
  · obtain ⟨_, rfl, _⟩ := h
    rfl
  · have S := sc_law_integers
    refine ⟨_, PSs.nox (pss_cons (ps_for PassesOwn.never rfl (pi_or (pi_list (pv 0)) (pi_tup (pv 0))) (pg_name (i := 1) S.nd rfl (by first | exact .inl rfl | exact .inr rfl))
    (pss_one (ps_if (pw_or (pt_not (pt_val (pe_callB call_isi (by rfl) T.f_isinstance (by first | rfl | decide +kernel) (pa_cons (pv 1) (pa_cons (pe_bltn (v := .ty "int") (by rfl) T.f_int (by first | rfl | decide +kernel) rfl) pa_nil))))) (pw_or1 (pt_val (pe_callB call_isi (by rfl) T.f_isinstance (by first | rfl | decide +kernel) (pa_cons (pv 1) (pa_cons (pe_bltn (v := .ty "bool") (by rfl) T.f_bool (by first | rfl | decide +kernel) rfl) pa_nil)))))).pt
      (pss_one (ps_ret pe_bl))
      pss_nil)))
    (pss_one (ps_ret pe_bl))), ?_⟩
    try dsimp only [cxOf, Cx.nox]
    obtain ⟨_, rfl, p, ns, rfl, hS, k⟩ := h
    walk_at "go"
    rcases hS with hS | hS
    · refine .inl ?_
      walk_at "go"
      refine for_ints (ns := ns) (fun pre σ H1 => (∃ v, σ = [some (.ref p), v]) ∧ H1 = H) ⟨⟨_, rfl⟩, rfl⟩ (fun pre σ H1 q => by rw [q.2]; exact hS) (fun pre x post σ H1 e q => ?_) (fun σ H1 q => ?_)
      · obtain ⟨⟨v, rfl⟩, rfl⟩ := q
        walk_at "go"
        exact ⟨⟨_, rfl⟩, rfl⟩
      · obtain ⟨⟨v, rfl⟩, rfl⟩ := q
        walk_at "go"
        exact k
    · refine .inr ?_
      walk_at "go"
      refine for_intsT (ns := ns) (fun pre σ H1 => (∃ v, σ = [some (.ref p), v]) ∧ H1 = H) ⟨⟨_, rfl⟩, rfl⟩ (fun pre σ H1 q => by rw [q.2]; exact hS) (fun pre x post σ H1 e q => ?_) (fun σ H1 q => ?_)
      · obtain ⟨⟨v, rfl⟩, rfl⟩ := q
        walk_at "go"
        exact ⟨⟨_, rfl⟩, rfl⟩
      · obtain ⟨⟨v, rfl⟩, rfl⟩ := q
        walk_at "go"
        exact k
theorem ok_law_size (T : Txt K mg)  {f : Addr} {fd : FuncData} (F : FnP K "_law_size" s_law_size f fd) : FnOk P w K mg base CX0 1 f fd ["number"] (sp_law_size K) := by
  refine F.ok sc_law_size (fun vs H Q E h => ?_) (fun cdv A outer s H vs Q E hr h => ?_)
  · obtain ⟨_, rfl, _⟩ := h
    rfl
  · have S := sc_law_size
    refine ⟨_, PSs.nox (pss_cons (ps_set (i := 1) S.nd rfl (by first | exact .inl rfl | exact .inr rfl) (pe_lst (pa_cons pe_int (pa_cons pe_int (pa_cons pe_int (pa_cons pe_int pa_nil))))))
    (pss_cons (ps_for PassesOwn.never rfl (pi_range1 (by rfl) T.f_range (pa_cons pe_int pa_nil)) (pg_name (i := 2) S.nd rfl (by first | exact .inl rfl | exact .inr rfl))
    (pss_one (ps_if (pt_chain op_le op_lt (pe_ix ix_list (pv 1) (pv 2) (fun _ _ => rfl)) (pv 0) (pe_op op_mul pe_int (pe_ix ix_list (pv 1) (pv 2) (fun _ _ => rfl))))
      (pss_one (ps_ret (pe_op op_add (pv 2) pe_int)))
      pss_nil)))
    (pss_one (ps_ret pe_int)))), ?_⟩
    try dsimp only [cxOf, Cx.nox]
    obtain ⟨_, rfl, n, rfl, k⟩ := h
    walk_at "go"
    rename_i D hD
    have s1 := same_new (o := .lst [.int 256, .int 65536, .int 16777216, .int 4294967296]) hD
    have e1 : (upd H D (.lst [.int 256, .int 65536, .int 16777216, .int 4294967296])) D = some (.lst [.int 256, .int 65536, .int 16777216, .int 4294967296]) := upd_same
    generalize upd H D (.lst [.int 256, .int 65536, .int 16777216, .int 4294967296]) = H1 at *
    refine for_rng (fun i σ H2 => (∃ v, σ = [some (.int n), some (.ref D), v]) ∧ H2 = H1 ∧ (1 ≤ i → ¬ n / 256 = 1) ∧ (2 ≤ i → ¬ n / 65536 = 1) ∧ (3 ≤ i → ¬ n / 16777216 = 1) ∧ (4 ≤ i → ¬ n / 4294967296 = 1)) ⟨⟨_, rfl⟩, rfl, by omega, by omega, by omega, by omega⟩ (fun i σ H2 hi q => ?_) (fun σ H2 q => ?_)
    · obtain ⟨⟨v1, rfl⟩, rfl, q1, q2, q3, q4⟩ := q
      have hi4 : i < 4 := hi
      walk_at "go"
      match i, hi4 with
      | 0, _ =>
        refine e_ixL (v := .int 256) (SqL.of e1) rfl ?_
        walk_at "go"
        refine i_d (fun h1 => ?_) (fun h1 => ?_)
        · walk_at "go"
          refine e_ixL (v := .int 256) (SqL.of e1) rfl ?_
          walk_at "go"
          refine i_d (fun h2 => ?_) (fun h2 => ?_)
          · walk_at "go"
            have h3 : n / 256 = 1 := by omega
            have e : bsize n = 1 := by unfold bsize; rw [if_pos h3]
            rw [e] at k
            exact k _ s1
          · walk_at "go"
            exact ⟨⟨_, rfl⟩, rfl, by omega, by omega, by omega, by omega⟩
        · walk_at "go"
          exact ⟨⟨_, rfl⟩, rfl, by omega, by omega, by omega, by omega⟩
      | 1, _ =>
        refine e_ixL (v := .int 65536) (SqL.of e1) rfl ?_
        walk_at "go"
        refine i_d (fun h1 => ?_) (fun h1 => ?_)
        · walk_at "go"
          refine e_ixL (v := .int 65536) (SqL.of e1) rfl ?_
          walk_at "go"
          refine i_d (fun h2 => ?_) (fun h2 => ?_)
          · walk_at "go"
            have h3 : n / 65536 = 1 := by omega
            have e : bsize n = 2 := by unfold bsize; rw [if_neg (q1 (by omega)), if_pos h3]
            rw [e] at k
            exact k _ s1
          · walk_at "go"
            exact ⟨⟨_, rfl⟩, rfl, by omega, by omega, by omega, by omega⟩
        · walk_at "go"
          exact ⟨⟨_, rfl⟩, rfl, by omega, by omega, by omega, by omega⟩
      | 2, _ =>
        refine e_ixL (v := .int 16777216) (SqL.of e1) rfl ?_
        walk_at "go"
        refine i_d (fun h1 => ?_) (fun h1 => ?_)
        · walk_at "go"
          refine e_ixL (v := .int 16777216) (SqL.of e1) rfl ?_
          walk_at "go"
          refine i_d (fun h2 => ?_) (fun h2 => ?_)
          · walk_at "go"
            have h3 : n / 16777216 = 1 := by omega
            have e : bsize n = 3 := by unfold bsize; rw [if_neg (q1 (by omega)), if_neg (q2 (by omega)), if_pos h3]
            rw [e] at k
            exact k _ s1
          · walk_at "go"
            exact ⟨⟨_, rfl⟩, rfl, by omega, by omega, by omega, by omega⟩
        · walk_at "go"
          exact ⟨⟨_, rfl⟩, rfl, by omega, by omega, by omega, by omega⟩
      | 3, _ =>
        refine e_ixL (v := .int 4294967296) (SqL.of e1) rfl ?_
        walk_at "go"
        refine i_d (fun h1 => ?_) (fun h1 => ?_)
        · walk_at "go"
          refine e_ixL (v := .int 4294967296) (SqL.of e1) rfl ?_
          walk_at "go"
          refine i_d (fun h2 => ?_) (fun h2 => ?_)
          · walk_at "go"
            have h3 : n / 4294967296 = 1 := by omega
            have e : bsize n = 4 := by unfold bsize; rw [if_neg (q1 (by omega)), if_neg (q2 (by omega)), if_neg (q3 (by omega)), if_pos h3]
            rw [e] at k
            exact k _ s1
          · walk_at "go"
            exact ⟨⟨_, rfl⟩, rfl, by omega, by omega, by omega, by omega⟩
        · walk_at "go"
          exact ⟨⟨_, rfl⟩, rfl, by omega, by omega, by omega, by omega⟩
    · obtain ⟨⟨v1, rfl⟩, rfl, q1, q2, q3, q4⟩ := q
      walk_at "go"
      have e : bsize n = 0 := by unfold bsize; rw [if_neg (q1 (by decide)), if_neg (q2 (by decide)), if_neg (q3 (by decide)), if_neg (q4 (by decide))]
      rw [e] at k
      exact k _ s1
theorem ok_law_bytes (T : Txt K mg) (c_law_size : Cal P w K mg base 1 "_law_size" (sp_law_size K)) {f : Addr} {fd : FuncData} (F : FnP K "_law_bytes" s_law_bytes f fd) : FnOk P w K mg base CX0 2 f fd ["number"] (sp_law_bytes K) := by
  refine F.ok sc_law_bytes (fun vs H Q E h => ?_) (fun cdv A outer s H vs Q E hr h => ?_)
  · obtain ⟨_, rfl, _⟩ := h
    rfl
  · have S := sc_law_bytes
    refine ⟨_, PSs.nox (pss_cons (ps_set (i := 1) S.nd rfl (by first | exact .inl rfl | exact .inr rfl) (pe_lst pa_nil))
    (pss_cons (ps_for PassesOwn.never rfl (pi_range1 (by rfl) T.f_range (pa_cons (pe_c c_law_size hr (by decide) (by rfl) (pa_cons (pv 0) pa_nil)) pa_nil)) (pg_name (i := 2) S.nd rfl (by first | exact .inl rfl | exact .inr rfl))
    (pss_cons (ps_set (i := 1) S.nd rfl (by first | exact .inl rfl | exact .inr rfl) (pe_op op_cat (pe_lst (pa_cons (pe_op op_mod (pe_callTy call_int1 (by rfl) T.f_int (by first | rfl | decide +kernel) (pa_cons (pv 0) pa_nil)) pe_int) pa_nil)) (pv 1)))
      (pss_one (ps_set (i := 0) S.nd rfl (by first | exact .inl rfl | exact .inr rfl) (pe_op op_fdivW (pv 0) pe_int)))))
    (pss_one (ps_ret (pv 1))))), ?_⟩
    try dsimp only [cxOf, Cx.nox]
    obtain ⟨_, rfl, n, rfl, k⟩ := h
    walk_at "go"
    rename_i D hD
    have s1 := same_new (o := .lst []) hD
    refine ⟨_, rfl, n, rfl, fun H1 s2 => ?_⟩
    have e1 := s2 _ _ (show (upd H D (.lst [])) D = some (.lst []) from upd_same)
    have s12 := s1.trans s2
    have hb := bsize_le n
    walk_at "go"
    refine for_rng (fun i σ H2 => ∃ (E : Addr) (v : Option V), σ = [some (.int (n / 256 ^ i)), some (.ref E), v] ∧ Same H H2 ∧ H2 E = some (.lst ((bytesOf i n).map V.int)) ∧ (bytesOf i n).length = i) ⟨D, none, by rw [Int.pow_zero, Int.ediv_one]; rfl, s12, e1, rfl⟩ (fun i σ H2 hi q => ?_) (fun σ H2 q => ?_)
    · obtain ⟨E, v, rfl, s3, e3, l3⟩ := q
      have hi : i < 4 := by omega
      walk_at "go"
      rename_i t ht
      have s4 := same_new (o := .lst [.int (n / 256 ^ i % 256)]) ht
      refine ⟨t, E, _, _, rfl, rfl, upd_same, s4 _ _ e3, sz_of (by rw [List.length_map, l3]; show 1 + i ≤ _; omega), fun u hu => ?_⟩
      walk_at "go"
      refine ⟨u, some (.int (0 + (i : Int))), ?_, (s3.trans s4).trans (same_new hu), upd_same, ?_⟩
      · rw [← pow_step n hi]; rfl
      · show (bytesOf i n).length + 1 = i + 1
        rw [l3]
    · obtain ⟨E, v, rfl, s3, e3, l3⟩ := q
      walk_at "go"
      rw [bytesOf_size] at e3
      exact k E H2 s3 e3
theorem ok_law_integer (T : Txt K mg) (c_law_draw : Cal P w K mg base 1 "_law_draw" (spDraw K)) {f : Addr} {fd : FuncData} (F : FnP K "_law_integer" s_law_integer f fd) : FnOk P w K mg base CX0 2 f fd ["state", "script"] (sp_law_integer K) := by
  refine F.ok sc_law_integer (fun vs H Q E h => ?_) (fun cdv A outer s H vs Q E hr h => ?_)
  · obtain ⟨_, _, rfl, _⟩ := h
    rfl
  · have S := sc_law_integer
    refine ⟨_, PSs.nox (pss_cons (ps_set (i := 2) S.nd rfl (by first | exact .inl rfl | exact .inr rfl) (pe_lst (pa_cons pe_int (pa_cons pe_int (pa_cons pe_int (pa_cons pe_int pa_nil))))))
    (pss_cons (ps_set (i := 3) S.nd rfl (by first | exact .inl rfl | exact .inr rfl) (pe_c c_law_draw hr (by decide) (by rfl) (pa_cons (pv 0) (pa_cons (pv 1) (pa_cons pe_int pa_nil)))))
    (pss_cons (ps_set (i := 4) S.nd rfl (by first | exact .inl rfl | exact .inr rfl) (pe_ix ix_list (pv 2) (pe_c c_law_draw hr (by decide) (by rfl) (pa_cons (pv 0) (pa_cons (pv 1) (pa_cons pe_int pa_nil)))) (fun _ _ => rfl)))
    (pss_cons (ps_if (pt_cmpR op_lt (pv 3) pe_int (nomark _))
    (pss_one (ps_ret (pe_op op_sub (pe_op op_add (pv 4) (pe_c c_law_draw hr (by decide) (by rfl) (pa_cons (pv 0) (pa_cons (pv 1) (pa_cons pe_int pa_nil))))) pe_int)))
    pss_nil)
    (pss_cons (ps_if (pt_cmpR op_eq (pv 3) pe_int (nomark _))
    (pss_one (ps_ret (pe_op op_sub (pe_op op_add (pe_op op_mul pe_int (pv 4)) (pe_c c_law_draw hr (by decide) (by rfl) (pa_cons (pv 0) (pa_cons (pv 1) (pa_cons pe_int pa_nil))))) pe_int)))
    pss_nil)
    (pss_cons (ps_if (pw_and (pt_cmpR op_eq (pv 3) pe_int (nomark _)) (pw_and1 (pt_cmpR op_gt (pe_callB call_len_seq (by rfl) T.f_len (by first | rfl | decide +kernel) (pa_cons (pv 1) pa_nil)) pe_int (nomark _)))).pt
    (pss_one (ps_ret (pe_callTy call_int1 (by rfl) T.f_int (by first | rfl | decide +kernel) (pa_cons (pe_ix ix_list (pv 1) (pe_c c_law_draw hr (by decide) (by rfl) (pa_cons (pv 0) (pa_cons (pv 1) (pa_cons (pe_callB call_len_seq (by rfl) T.f_len (by first | rfl | decide +kernel) (pa_cons (pv 1) pa_nil)) pa_nil)))) (fun _ _ => rfl)) pa_nil))))
    pss_nil)
    (pss_cons (ps_if (pt_cmpR op_eq (pv 3) pe_int (nomark _))
    (pss_one (ps_ret (pe_op op_sub (pe_c c_law_draw hr (by decide) (by rfl) (pa_cons (pv 0) (pa_cons (pv 1) (pa_cons pe_int pa_nil)))) pe_int)))
    pss_nil)
    (pss_one (ps_ret (pe_op op_add (pv 4) (pe_c c_law_draw hr (by decide) (by rfl) (pa_cons (pv 0) (pa_cons (pv 1) (pa_cons (pv 4) pa_nil)))))))))))))), ?_⟩
    try dsimp only [cxOf, Cx.nox]
    obtain ⟨_, _, rfl, st, sc, ns, rfl, rfl, d, k⟩ := h
    walk_at "go"
    rename_i D hD
    have dE := d.same (same_new (o := .lst [.int 256, .int 65536, .int 16777216, .int 4294967296]) hD)
    have nE := d.ne hD
    have kn := Kp.new (st := st) (o := .lst [.int 256, .int 65536, .int 16777216, .int 4294967296]) hD
    intro v1 H1 a1 b1 k1 d1
    walk_at "go"
    intro v2 H2 a2 b2 k2 d2
    have k12 := k1.trans k2
    obtain ⟨m, hm, em⟩ := pick_int (l := [256, 65536, 16777216, 4294967296]) a2 b2
    have hm2 : ∀ m ∈ ([256, 65536, 16777216, 4294967296] : List Int), 0 < m ∧ m < 2 ^ 60 := by decide
    have hm3 := hm2 m hm
    refine e_ixL (SqL.of (k12 _ _ nE upd_same)) em ?_
    have kk := kn.trans k12
    walk_at "go"
    refine i_d (fun h1 => ?_) (fun h1 => ?_)
    · walk_at "go"
      intro v3 H3 a3 b3 k3 d3
      walk_at "go"
      exact k _ _ (kk.trans k3) d3
    walk_at "go"
    refine i_d (fun h2 => ?_) (fun h2 => ?_)
    · walk_at "go"
      intro v3 H3 a3 b3 k3 d3
      walk_at "go"
      exact k _ _ (kk.trans k3) d3
    walk_at "go"
    refine i_d (fun h3 => ?_) (fun h3 => ?_)
    · have hS := d2.seq
      have hl := d2.len
      have e5 : (ns.map V.int).length = ns.length := List.length_map ..
      walk_at "go"
      refine i_d (fun h4 => ?_) (fun h4 => ?_)
      · have h6 : (((ns.map V.int).length : Nat) : Int) < 2 ^ 60 := by omega
        walk_at "go"
        intro v3 H3 a3 b3 k3 d3
        rw [e5] at b3
        obtain ⟨x, hx, ex⟩ := pick_int (l := ns) a3 b3
        refine e_ixL d3.seq ex ?_
        walk_at "go"
        exact k _ _ (kk.trans k3) d3
      · walk_at "go"
        refine i_d (fun h5 => absurd h5 (by omega)) (fun h5 => ?_)
        walk_at "go"
        intro v3 H3 a3 b3 k3 d3
        walk_at "go"
        exact k _ _ (kk.trans k3) d3
    · walk_at "go"
      refine i_d (fun h5 => ?_) (fun h5 => ?_)
      · walk_at "go"
        intro v3 H3 a3 b3 k3 d3
        walk_at "go"
        exact k _ _ (kk.trans k3) d3
      · walk_at "go"
        intro v3 H3 a3 b3 k3 d3
        walk_at "go"
        exact k _ _ (kk.trans k3) d3
theorem ok_law_outcome (T : Txt K mg) (c_joined : CalX P w K mg base 4 "joined" (sp_joined K)) {f : Addr} {fd : FuncData} (F : FnP K "_law_outcome" s_law_outcome f fd) : FnOk P w K mg base CX0 5 f fd ["row"] (sp_law_outcome K) := by
  refine F.ok sc_law_outcome (fun vs H Q E h => ?_) (fun cdv A outer s H vs Q E hr h => ?_)
  · obtain ⟨_, rfl, _⟩ := h
    rfl
  · have S := sc_law_outcome
    refine ⟨_, (pss_one (ps_try_as (i := 1) (tb := fun W => tRet (tCallS (sp_joined K) (WE W) (tCons (tVar 0) tNil))) (ts := tsOut K) (Wout := fun _ _ _ _ => False) rfl rfl S.nd rfl rfl ⟨rfl, by decide, Or.inl T.er_InvalidBlock.er.gC⟩ takes0 (fun W pn xe tk _ => pss_one (ps_ret (by exact (pe_cX c_joined hr (by decide) tk (by rfl) (pa_cons (pv 0) pa_nil)))))
      (fun a oe cls d pn hz hf => pss_cons (ps_if (pw_or (pt_not (pt_val (pe_callB (call_isP T.er_InvalidBlock.ec hz hf) (by rfl) T.f_isinstance (by first | rfl | decide +kernel) (pa_cons (pv 1) (pa_cons (pe_glob (by rfl) T.er_InvalidBlock.gB (show RelV (.ref (cFE K)) (.ref (cFE K)) from rfl)) pa_nil))))) (pw_or1 (pt_not (pt_val (pe_callB (call_isP T.er_InvalidBlock.ec hz hf) (by rfl) T.f_isinstance (by first | rfl | decide +kernel) (pa_cons (pv 1) (pa_cons (pe_bltn (v := .ty "ValueError") (by rfl) T.f_ValueError (by first | rfl | decide +kernel) rfl) pa_nil))))))).pt (pss_one (ps_ret pe_non)) pss_nil) (pss_one (ps_ret (pe_plcErr T.er_InvalidBlock.er hz hf (pv 1))))))), ?_⟩
    try dsimp only [cxOf, Cx.nox]
    obtain ⟨_, rfl, p, ns, rfl, hS, hl, k1, k2⟩ := h
    walk_at "go"
    refine ⟨_, rfl, p, ns, rfl, hS, hl, fun hg q H' hq s e => k1 hg q H' s e, fun pre x post e hp hx d H' s hd => ?_⟩
    refine ⟨true, T.er_InvalidBlock.er.te, fun _ a ha => ?_, fun q => Bool.noConfusion q⟩
    unfold tsOut
    walk_at "go"
    refine ⟨rfl, d, _, _, _, true, rfl, upd_same, rfl, fun u r => r, T.er_InvalidBlock.ib, ?_⟩
    walk_at "go"
    refine ⟨rfl, d, _, _, _, true, rfl, upd_same, rfl, fun u r => r, T.er_InvalidBlock.iv, ?_⟩
    walk_at "go"
    refine ⟨rfl, rfl, d, _, rfl, upd_same, ?_⟩
    exact k2 pre x post e hp hx _ (s.trans (same_new hd))
theorem ok_law_one (T : Txt K mg) (c_block_bytes : CalX P w K mg base 3 "block_bytes" (sp_block_bytesX K)) {f : Addr} {fd : FuncData} (F : FnP K "_law_one" s_law_one f fd) : FnOk P w K mg base CX0 4 f fd ["number"] (sp_law_one K) := by
  refine F.ok sc_law_one (fun vs H Q E h => ?_) (fun cdv A outer s H vs Q E hr h => ?_)
  · obtain ⟨_, rfl, _⟩ := h
    rfl
  · have S := sc_law_one
    refine ⟨_, (pss_one (ps_try_as (i := 1) (tb := fun W => tRet (tCallS (sp_block_bytesX K) (WE W) (tCons (tVar 0) tNil))) (ts := tsOne K) (Wout := fun _ _ _ _ => False) rfl rfl S.nd rfl rfl ⟨rfl, by decide, Or.inl T.er_InvalidBlock.gB⟩ takes0 (fun W pn xe tk _ => pss_one (ps_ret (by exact (pe_cX c_block_bytes hr (by decide) tk (by rfl) (pa_cons (pv 0) pa_nil)))))
      (fun a oe cls d pn hz hf => pss_cons (ps_if (pt_not (pt_val (pe_callB (call_isP T.er_InvalidBlock.ec hz hf) (by rfl) T.f_isinstance (by first | rfl | decide +kernel) (pa_cons (pv 1) (pa_cons (pe_glob (by rfl) T.er_InvalidBlock.er.gC (show RelV (.ref (cIB K)) (.ref (cIB K)) from rfl)) pa_nil))))) (pss_one (ps_ret pe_non)) pss_nil) (pss_one (ps_ret (pe_plcErr T.er_InvalidBlock.er hz hf (pv 1))))))), ?_⟩
    try dsimp only [cxOf, Cx.nox]
    obtain ⟨_, rfl, n, rfl, k1, k2⟩ := h
    walk_at "go"
    refine ⟨_, rfl, n, rfl, fun hg q H' hq s e => k1 hg q H' s e, fun hx d hd => ?_⟩
    refine ⟨true, T.er_InvalidBlock.xb, fun _ a ha => ?_, fun q => Bool.noConfusion q⟩
    unfold tsOne
    walk_at "go"
    refine ⟨rfl, d, _, _, _, true, rfl, upd_same, rfl, fun u r => r, T.er_InvalidBlock.ii, ?_⟩
    walk_at "go"
    refine ⟨rfl, rfl, d, _, rfl, upd_same, ?_⟩
    exact k2 hx _ (same_new hd)
theorem ok_law_told (T : Txt K mg)  {f : Addr} {fd : FuncData} (F : FnP K "_law_told" s_law_told f fd) : FnOk P w K mg base CX0 1 f fd ["actual", "due"] (sp_law_told K) := by
  refine F.ok sc_law_told (fun vs H Q E h => ?_) (fun cdv A outer s H vs Q E hr h => ?_)
  · obtain ⟨_, _, rfl, _⟩ := h
    rfl
  · have S := sc_law_told
    refine ⟨_, PSs.nox (pss_one (ps_ret (pe_and (pe_callB call_isi (by rfl) T.f_isinstance (by first | rfl | decide +kernel) (pa_cons (pv 0) (pa_cons (pe_bltn (v := .ty "bool") (by rfl) T.f_bool (by first | rfl | decide +kernel) rfl) pa_nil))) (pe_one (pe_cmpR op_eq (pv 0) (pv 1) (nomark _)))))), ?_⟩
    try dsimp only [cxOf, Cx.nox]
    obtain ⟨_, _, rfl, x, y, rfl, rfl, k⟩ := h
    walk_at "go"
    exact k
theorem ok_law (T : Txt K mg) (c_law_draw : Cal P w K mg base 1 "_law_draw" (spDraw K)) (c_law_integer : Cal P w K mg base 2 "_law_integer" (sp_law_integer K)) (c_law_size : Cal P w K mg base 1 "_law_size" (sp_law_size K)) (c_block_size : Cal P w K mg base 1 "block_size" (sp_block_size K)) (c_law_told : Cal P w K mg base 1 "_law_told" (sp_law_told K)) (c_is_block : Cal P w K mg base 2 "is_block" (sp_is_block K)) (c_law_integers : Cal P w K mg base 1 "_law_integers" (sp_law_integers K)) (c_law_one : Cal P w K mg base 4 "_law_one" (sp_law_one K)) (c_law_bytes : Cal P w K mg base 2 "_law_bytes" (sp_law_bytes K)) (c_law_outcome : Cal P w K mg base 5 "_law_outcome" (sp_law_outcome K)) (c_is_blocks : Cal P w K mg base 3 "is_blocks" (sp_is_blocks K)) {f : Addr} {fd : FuncData} (F : FnP K "law" s_law f fd) : FnOk P w K mg base CX0 6 f fd ["script"] (sp_law K) := by
  refine F.ok sc_law (fun vs H Q E h => ?_) (fun cdv A outer s H vs Q E hr h => ?_)
  · obtain ⟨_, rfl, _⟩ := h
    rfl
  · have S := sc_law
    refine ⟨_, PSs.nox (pss_cons (ps_set (i := 1) S.nd rfl (by first | exact .inl rfl | exact .inr rfl) (pe_lst (pa_cons pe_int (pa_cons pe_int pa_nil))))
    (pss_cons (ps_set (i := 2) S.nd rfl (by first | exact .inl rfl | exact .inr rfl) (pe_lc (own := [("k", 13)]) (g := gName 13) (tt := tYes) rfl S.nd (pi_range1 (by rfl) T.f_range (pa_cons (pe_c c_law_draw hr (by decide) (by rfl) (pa_cons (pv 1) (pa_cons (pv 0) (pa_cons pe_int pa_nil)))) pa_nil)) (blkOk_by (N := N_law) (sc := defScope s_law) (by decide +kernel)) (fun _ _ _ _ _ => (pg_name (i := 13) S.nd rfl (by first | exact .inl rfl | exact .inr rfl))) (fun _ _ _ _ _ => pts_nil) (fun _ _ _ _ _ => (pe_c c_law_integer hr (by decide) (by rfl) (pa_cons (pv 1) (pa_cons (pv 0) pa_nil))))))
    (C8.pss_cut (ps_if (pt_cmpR op_eq (pe_c c_law_draw hr (by decide) (by rfl) (pa_cons (pv 1) (pa_cons (pv 0) (pa_cons pe_int pa_nil)))) pe_int (nomark _))
    (pss_cons (ps_set (i := 3) S.nd rfl (by first | exact .inl rfl | exact .inr rfl) (pe_ix ix_list (pe_lst (pa_cons pe_int (pa_cons pe_int (pa_cons pe_int (pa_cons pe_int (pa_cons pe_int (pa_cons pe_int (pa_cons pe_int (pa_cons pe_int (pa_cons pe_int (pa_cons pe_int pa_nil))))))))))) (pe_c c_law_draw hr (by decide) (by rfl) (pa_cons (pv 1) (pa_cons (pv 0) (pa_cons pe_int pa_nil)))) (fun _ _ => rfl)))
      (pss_one (ps_set (i := 2) S.nd rfl (by first | exact .inl rfl | exact .inr rfl) (pe_op op_cat (pe_lc (own := [("k", 13)]) (g := gName 13) (tt := tYes) rfl S.nd (pi_range1 (by rfl) T.f_range (pa_cons (pv 3) pa_nil)) (blkOk_by (N := N_law) (sc := defScope s_law) (by decide +kernel)) (fun _ _ _ _ _ => (pg_name (i := 13) S.nd rfl (by first | exact .inl rfl | exact .inr rfl))) (fun _ _ _ _ _ => pts_nil) (fun _ _ _ _ _ => (pe_op op_add pe_int (pe_op op_mul pe_int (pv 13))))) (pv 2)))))
    pss_nil)
    (pss_cons (ps_setLc (i := 4) (own := [("k", 13)]) (g := gName 13) rfl S.nd rfl rfl (sw_true rfl rfl rfl (by decide +kernel)) (pi_range1 (by rfl) T.f_range (pa_cons (pe_callB call_len_seq (by rfl) T.f_len (by first | rfl | decide +kernel) (pa_cons (pv 2) pa_nil)) pa_nil)) (blkOk_by (N := N_law) (sc := defScope s_law) (by decide +kernel)) (fun _ _ _ _ _ => (pg_name (i := 13) S.nd rfl (by first | exact .inl rfl | exact .inr rfl))) (fun _ _ _ _ _ => (pts_one (pt_cmpR op_eq (pe_c c_law_size hr (by decide) (by rfl) (pa_cons (pe_ix (ixL K) (pv 2) (pv 13) (fun _ _ => rfl)) pa_nil)) pe_int (nomark _)))) (fun _ _ _ _ _ => (pv 13)))
    (pss_cons (ps_setLc (i := 5) (own := [("k", 13)]) (g := gName 13) rfl S.nd rfl rfl (sw_true rfl rfl rfl (by decide +kernel)) (pi_range1 (by rfl) T.f_range (pa_cons (pe_op op_sub (pe_callB call_len_seq (by rfl) T.f_len (by first | rfl | decide +kernel) (pa_cons (pv 2) pa_nil)) pe_int) pa_nil)) (blkOk_by (N := N_law) (sc := defScope s_law) (by decide +kernel)) (fun _ _ _ _ _ => (pg_name (i := 13) S.nd rfl (by first | exact .inl rfl | exact .inr rfl))) (fun _ _ _ _ _ => (pts_one (pt_cmpR op_lt (pe_c c_law_size hr (by decide) (by rfl) (pa_cons (pe_ix (ixL K) (pv 2) (pv 13) (fun _ _ => rfl)) pa_nil)) pe_int (nomark _)))) (fun _ _ _ _ _ => (pv 13)))
    (pss_cons (ps_set (i := 6) S.nd rfl (by first | exact .inl rfl | exact .inr rfl) (pe_lst pa_nil))
    (pss_cons (ps_for PassesOwn.never rfl (pi_list (pv 2)) (pg_name (i := 7) S.nd rfl (by first | exact .inl rfl | exact .inr rfl))
    (pss_cons (ps_set (i := 8) S.nd rfl (by first | exact .inl rfl | exact .inr rfl) (pe_c c_block_size hr (by decide) (by rfl) (pa_cons (pv 7) pa_nil)))
      (pss_cons (ps_if (pw_or (pt_not (pt_val (pe_c c_law_integers hr (by decide) (by rfl) (pa_cons (pe_lst (pa_cons (pv 8) pa_nil)) pa_nil)))) (pw_or (pt_cmpR op_ne (pv 8) (pe_c c_law_size hr (by decide) (by rfl) (pa_cons (pv 7) pa_nil)) (nomark _)) (pw_or1 (pt_not (pt_val (pe_c c_law_told hr (by decide) (by rfl) (pa_cons (pe_c c_is_block hr (by decide) (by rfl) (pa_cons (pv 7) pa_nil)) (pa_cons (pe_cmpR op_gt (pv 8) pe_int (nomark _)) pa_nil)))))))).pt
      (pss_one (ps_ret pe_bl))
      pss_nil)
      (pss_cons (ps_set (i := 9) S.nd rfl (by first | exact .inl rfl | exact .inr rfl) (pe_c c_law_one hr (by decide) (by rfl) (pa_cons (pv 7) pa_nil)))
      (pss_cons (ps_if (pw_and (pt_cmpR op_eq (pv 8) pe_int (nomark _)) (pw_and1 (pw_or (pt_not (pt_val (pe_c c_law_integers hr (by decide) (by rfl) (pa_cons (pe_lst (pa_cons (pv 9) pa_nil)) pa_nil)))) (pw_or1 (pt_cmpR (OpR.or op_ne (op_neD hr.units)) (pv 9) pe_int (nomark _)))).pt)).pt
      (pss_one (ps_ret pe_bl))
      pss_nil)
      (pss_cons (ps_if (pw_and (pt_cmpR op_gt (pv 8) pe_int (nomark _)) (pw_and1 (pt_cmpR (op_neD hr.units) (pv 9) (pe_c c_law_bytes hr (by decide) (by rfl) (pa_cons (pv 7) pa_nil)) (nomark _)))).pt
      (pss_one (ps_ret pe_bl))
      pss_nil)
      (pss_one (ps_set (i := 6) S.nd rfl (by first | exact .inl rfl | exact .inr rfl) (pe_op op_cat (pv 6) (pe_c c_law_bytes hr (by decide) (by rfl) (pa_cons (pv 7) pa_nil)))))))))))
    (C8.pss_cut (ps_if (pt_cmpR op_gt (pe_callB call_len_seq (by rfl) T.f_len (by first | rfl | decide +kernel) (pa_cons (pv 4) pa_nil)) pe_int (nomark _))
    (pss_one (ps_set (i := 6) S.nd rfl (by first | exact .inl rfl | exact .inr rfl) (pe_ix ix_list (pv 4) pe_int (fun _ _ => rfl))))
    pss_nil)
    (pss_cons (ps_set (i := 10) S.nd rfl (by first | exact .inl rfl | exact .inr rfl) (pe_callTy call_list_of (by rfl) T.f_list (by first | rfl | decide +kernel) (pa_cons (pv 2) pa_nil)))
    (pss_cons (ps_set (i := 11) S.nd rfl (by first | exact .inl rfl | exact .inr rfl) (pe_c c_law_outcome hr (by decide) (by rfl) (pa_cons (pv 10) pa_nil)))
    (pss_cons (ps_if (pw_or (pt_cmpR (op_neD hr.units) (pv 10) (pv 2) (nomark _)) (pw_or (pt_cmpR (OpR.or op_ne (op_neD hr.units)) (pv 11) (pv 6) (nomark _)) (pw_or (pt_cmpR (OpR.or op_ne (op_neD hr.units)) (pe_c c_law_outcome hr (by decide) (by rfl) (pa_cons (pe_callTy call_tuple_of (by rfl) T.f_tuple (by first | rfl | decide +kernel) (pa_cons (pv 2) pa_nil)) pa_nil)) (pv 6) (nomark _)) (pw_or1 (pt_val (pe_callB call_isi (by rfl) T.f_isinstance (by first | rfl | decide +kernel) (pa_cons (pv 11) (pa_cons (pe_bltn (v := .ty "bool") (by rfl) T.f_bool (by first | rfl | decide +kernel) rfl) pa_nil)))))))).pt
    (pss_one (ps_ret pe_bl))
    pss_nil)
    (C8.pss_cut (ps_set (i := 12) S.nd rfl (by first | exact .inl rfl | exact .inr rfl) (pe_and (pe_cmpR op_le (pe_callB call_len_seq (by rfl) T.f_len (by first | rfl | decide +kernel) (pa_cons (pv 2) pa_nil)) pe_int (nomark _)) (pe_and (pe_cmpR op_eq (pe_callB call_len_seq (by rfl) T.f_len (by first | rfl | decide +kernel) (pa_cons (pv 4) pa_nil)) pe_int (nomark _)) (pe_one (pe_cmpR op_eq (pe_callB call_len_seq (by rfl) T.f_len (by first | rfl | decide +kernel) (pa_cons (pv 5) pa_nil)) pe_int (nomark _))))))
    (pss_one (ps_ret (pe_and (pe_c c_law_told hr (by decide) (by rfl) (pa_cons (pe_c c_is_blocks hr (by decide) (by rfl) (pa_cons (pv 10) pa_nil)) (pa_cons (pv 12) pa_nil))) (pe_and (pe_c c_law_told hr (by decide) (by rfl) (pa_cons (pe_c c_is_blocks hr (by decide) (by rfl) (pa_cons (pe_callTy call_tuple_of (by rfl) T.f_tuple (by first | rfl | decide +kernel) (pa_cons (pv 2) pa_nil)) pa_nil)) (pa_cons (pv 12) pa_nil))) (pe_one (pe_cmpR (op_eqD hr.units) (pv 10) (pv 2) (nomark _))))))))))))))))))), ?_⟩
    try dsimp only [cxOf, Cx.nox]
    obtain ⟨_, rfl, sa, ns, rfl, hS, hlen, k⟩ := h
    walk_at "go"
    rename_i p hp
    have d0 : Dr K p sa ns (upd H p (.lst [.int 0, .int 0])) := Dr.start hS hp hlen
    walk_at "go"
    intro v1 H1 a1 b1 k1 d1
    walk_at "go"
    intro D hD
    have nD := d1.ne hD
    refine lc_dr d1 hD (by omega) (fun y => ∃ n : Int, y = .int n) (fun i H2 C E hi k2 d2 hC => ?_) (fun H2 xs k2 d2 e2 l2 g2 => ?_)
    · walk_at "go"
      refine ⟨_, _, rfl, p, sa, ns, rfl, rfl, d2, fun n H3 k3 d3 => ?_⟩
      exact hC (.int n) H3 k3 d3 ⟨n, rfl⟩
    obtain ⟨r0, rfl⟩ := ints_of g2
    rw [List.length_map] at l2
    walk_at "go"
    refine e_cut (Mid := fun σ' H' => ∃ (q : Addr) (row : List Int) (v3 v13 : Option V), σ' = [some (.ref sa), some (.ref p), some (.ref q), v3, none, none, none, none, none, none, none, none, none, v13] ∧ H' q = some (.lst (row.map V.int)) ∧ row.length ≤ 300) ?_ ?_
    · walk_at "go"
      intro v2 H3 a2 b2 k3 d3
      have e3 := k3 _ _ nD e2
      walk_at "go"
      refine i_d (fun h1 => ?_) (fun h1 => ?_)
      · walk_at "go"
        rename_i L hL
        have d4 := d3.same (same_new (o := .lst [.int 0, .int 1, .int 40, .int 248, .int 249, .int 250, .int 253, .int 254, .int 255, .int 256]) hL)
        have nL := d3.ne hL
        have e4 := same_new (o := .lst [.int 0, .int 1, .int 40, .int 248, .int 249, .int 250, .int 253, .int 254, .int 255, .int 256]) hL _ _ e3
        intro v4 H5 a4 b4 k5 d5
        obtain ⟨m, hm, em⟩ := pick_int (l := [0, 1, 40, 248, 249, 250, 253, 254, 255, 256]) a4 b4
        have hm2 : ∀ m ∈ ([0, 1, 40, 248, 249, 250, 253, 254, 255, 256] : List Int), 0 ≤ m ∧ m ≤ 256 := by decide
        have hm3 := hm2 m hm
        have e5 := k5 _ _ nD e4
        refine e_ixL (SqL.of (k5 _ _ nL upd_same)) em ?_
        walk_at "go"
        intro G hG
        refine lc_map_rng hG (by omega) (fun i => .int (4294967296 + 77 * (0 + (i : Int)))) (fun i H6 C E hi s6 hC => ?_) (fun H6 s6 e6 => ?_)
        · walk_at "go"
          exact hC H6 (Same.refl H6)
        walk_at "go"
        have e6' : H6 G = some (.lst (((List.range m.toNat).map fun i : Nat => 4294967296 + 77 * (0 + (i : Int))).map V.int)) := by rw [e6, List.map_map]; rfl
        refine ⟨G, D, _, _, rfl, rfl, e6', s6 _ _ e5, sz_of (by simp; omega), fun u hu => ?_⟩
        rw [← List.map_append] at *
        walk_at "go"
        exact ⟨u, _, _, _, rfl, upd_same, by simp; omega⟩
      · walk_at "go"
        exact ⟨D, r0, _, _, rfl, e3, by omega⟩
    clear k1 d1 a1 b1 k2 d2 e2 l2 g2 nD hD d0 hp hS hlen
    rintro σ' H0 ⟨q, row, v3, v13, rfl, e0, l0⟩
    have S0 : SqL K H0 q (row.map V.int) := SqL.of e0
    have ml : (row.map V.int).length = row.length := List.length_map ..
    have at_ : ∀ i : Nat, i < row.length → atI (row.map V.int) (0 + (i : Int)) = some (.int (row.getD i 0)) := fun i hi =>
      at_of (j := i) (by omega) (by rw [List.getElem?_map, List.getD_eq_getElem?_getD, List.getElem?_eq_getElem hi]; rfl)
    walk_at "go"
    intro B hB
    refine lc_filt (K := K) hB (by omega) (fun i => decide (bsize (row.getD i 0) = 0)) (fun i => .int (0 + (i : Int))) (fun i H2 C E hi s2 h1 h2 => ?_) (fun H2 s2 e2 => ?_)
    · have hi : i < row.length := by omega
      walk_at "go"
      refine e_ixL (s2.seq S0) (at_ i hi) ?_
      walk_at "go"
      refine ⟨_, rfl, _, rfl, fun H3 s3 => ?_⟩
      walk_at "go"
      refine i_d (fun q => ?_) (fun q => ?_)
      · walk_at "go"
        exact h1 (decide_eq_true q) H3 s3
      · exact h2 (decide_eq_false q) H3 s3
    rw [show (((row.map V.int).length : Nat) : Int).toNat = row.length from by omega] at e2
    have eB : SqL K H2 B (((badL row).map fun i : Nat => (0 + (i : Int))).map V.int) := by rw [List.map_map]; exact SqL.of e2
    have S2 := s2.seq S0
    have r2 := s2 _ _ e0
    clear e2 hB S0 s2 e0
    walk_at "go"
    intro C hC
    refine lc_filt (K := K) hC (by omega) (fun i => decide (bsize (row.getD i 0) < 4)) (fun i => .int (0 + (i : Int))) (fun i H3 Cn E' hi s3 h1 h2 => ?_) (fun H3 s3 e3 => ?_)
    · have hi : i < row.length := by omega
      walk_at "go"
      refine e_ixL (s3.seq S2) (at_ i hi) ?_
      walk_at "go"
      refine ⟨_, rfl, _, rfl, fun H4 s4 => ?_⟩
      walk_at "go"
      refine i_d (fun q => ?_) (fun q => ?_)
      · walk_at "go"
        exact h1 (decide_eq_true q) H4 s4
      · exact h2 (decide_eq_false q) H4 s4
    rw [show ((((row.map V.int).length : Nat) : Int) - 1).toNat = row.length - 1 from by omega] at e3
    have eC : SqL K H3 C (((shortL row).map fun i : Nat => (0 + (i : Int))).map V.int) := by rw [List.map_map]; exact SqL.of e3
    have S3 := s3.seq S2
    have r3 := s3 _ _ r2
    have eB3 := s3.seq eB
    clear e3 hC S2 s3 r2 eB
    walk_at "go"
    rename_i E0 hE0
    refine ⟨q, rfl, ⟨_, (same_new hE0).seq S3⟩, ?_⟩
    refine for_ints (ns := row) (fun pre σ H4 => ∃ (E : Addr) (v7 v8 v9 : Option V), σ = [some (.ref sa), some (.ref p), some (.ref q), v3, some (.ref B), some (.ref C), some (.ref E), v7, v8, v9, none, none, none, v13] ∧ Same H3 H4 ∧ H4 E = some (.lst ((pre.flatMap bbytes).map V.int))) ⟨E0, _, _, _, rfl, same_new hE0, upd_same⟩ (fun pre σ H4 q => by
      obtain ⟨E, v7, v8, v9, _, s4, _⟩ := q
      exact s4.seq S3) (fun pre x post σ H4 e z => ?_) (fun σ H4 z => ?_)
    · obtain ⟨E, v7, v8, v9, rfl, s4, e4⟩ := z
      have hb := bsize_le x
      have hlen : (pre.flatMap bbytes).length ≤ 1200 := by
        have h5 := flat_len pre
        have h6 : pre.length ≤ row.length := by rw [e]; simp
        omega
      walk_at "go"
      refine ⟨_, rfl, x, rfl, ?_⟩
      walk_at "go"
      rename_i t ht
      have s5 := same_new (o := .lst [.int (bsize x)]) ht
      refine ⟨_, rfl, t, [bsize x], rfl, .inl (SqL.of upd_same), ?_⟩
      walk_at "go"
      refine ⟨_, rfl, x, rfl, fun H5 s6 => ?_⟩
      have s56 := s5.trans s6
      walk_at "go"
      refine i_neself ?_
      walk_at "go"
      refine ⟨_, rfl, x, rfl, ?_⟩
      walk_at "go"
      refine ⟨_, _, rfl, _, _, rfl, rfl, ?_⟩
      walk_at "go"
      refine i_nself ?_
      walk_at "go"
      refine ⟨_, rfl, x, rfl, fun hg r H6 s7 e7 => ?_, fun hx H6 s7 => ?_⟩
      · walk_at "go"
        refine i_d (fun z => absurd z (by omega)) (fun _ => ?_)
        walk_at "go"
        refine i_d (fun _ => ?_) (fun z => absurd hg z)
        walk_at "go"
        refine ⟨_, rfl, x, rfl, fun r2 H7 s8 e8 => ?_⟩
        walk_at "go"
        refine e_neLL (SqL.of (s8 _ _ e7)) (SqL.of e8) ?_
        walk_at "go"
        refine i_neself ?_
        walk_at "go"
        refine ⟨_, rfl, x, rfl, fun r3 H8 s9 e9 => ?_⟩
        have sall := s56.trans (s7.trans (s8.trans s9))
        walk_at "go"
        refine ⟨E, r3, _, _, rfl, rfl, sall _ _ e4, e9, sz_of (by rw [List.length_map, List.length_map]; have := bbytes_len x; omega), fun u hu => ?_⟩
        walk_at "go"
        refine ⟨u, _, _, _, rfl, (s4.trans sall).trans (same_new hu), ?_⟩
        rw [upd_same, List.flatMap_append, List.map_append]
        simp
      · have h0 : bsize x = 0 := by omega
        walk_at "go"
        refine i_d (fun _ => ?_) (fun z => absurd h0 z)
        walk_at "go"
        rename_i t2 ht2
        have s8 := same_new (o := .lst [.int 0]) ht2
        refine ⟨_, rfl, t2, [0], rfl, .inl (SqL.of upd_same), ?_⟩
        walk_at "go"
        refine .inl (e_neI ?_)
        walk_at "go"
        refine i_neself ?_
        walk_at "go"
        refine i_d (fun z => absurd z hx) (fun _ => ?_)
        walk_at "go"
        refine ⟨_, rfl, x, rfl, fun r3 H8 s9 e9 => ?_⟩
        have sall := s56.trans (s7.trans (s8.trans s9))
        walk_at "go"
        refine ⟨E, r3, _, _, rfl, rfl, sall _ _ e4, e9, sz_of (by rw [List.length_map, List.length_map]; have := bbytes_len x; omega), fun u hu => ?_⟩
        walk_at "go"
        refine ⟨u, _, _, _, rfl, (s4.trans sall).trans (same_new hu), ?_⟩
        rw [upd_same, List.flatMap_append, List.map_append]
        simp
    obtain ⟨E, v7, v8, v9, rfl, s4, d5⟩ := z
    have r5 := s4 _ _ r3
    have b5 := s4.seq eB3
    have c5 := s4.seq eC
    clear s4 r3 eB3 eC S3 hE0
    have nb : (((badL row).map fun i : Nat => (0 + (i : Int))).map V.int).length = (badL row).length := by rw [List.length_map, List.length_map]
    rcases split_bad row with hall | ⟨pre, x, post, er, hp1, hx⟩
    · refine e_cut (Mid := fun σ' H' => H' = H4 ∧ σ' = [some (.ref sa), some (.ref p), some (.ref q), v3, some (.ref B), some (.ref C), some (.ref E), v7, v8, v9, none, none, none, v13]) ?_ ?_
      · walk_at "go"
        refine i_d (fun z => ?_) (fun z => ?_)
        · rw [nb, badL_nil hall] at z
          exact absurd z (by decide)
        · walk_at "go"
          exact ⟨rfl, rfl⟩
      rintro σ' H5 ⟨rfl, rfl⟩
      have e0' := SqL.of (K := K) r5
      walk_at "go"
      intro g hg
      have s6 := same_new (o := .lst (row.map V.int)) hg
      have g6 : (upd H5 g (.lst (row.map V.int))) g = some (.lst (row.map V.int)) := upd_same
      have r6 := s6 _ _ r5
      have b6 := s6.seq b5
      have c6 := s6.seq c5
      have d6 := s6 _ _ d5
      generalize upd H5 g (.lst (row.map V.int)) = H6 at *
      clear s6 hg e0' r5 b5 c5
      walk_at "go"
      refine ⟨_, rfl, g, row, rfl, .inl (SqL.of g6), by omega, fun _ f H7 s7 f7 => ?_, fun pre x post e _ hx => absurd (hall x (by rw [e]; simp)) hx⟩
      have d7 := s7 _ _ d6
      have r7 := s7 _ _ r6
      have g7 := s7 _ _ g6
      walk_at "go"
      refine e_neLL (SqL.of g7) (SqL.of r7) ?_
      walk_at "go"
      refine i_neself ?_
      walk_at "go"
      refine .inr (e_neLL (SqL.of f7) (SqL.of d7) ?_)
      walk_at "go"
      refine i_neself ?_
      walk_at "go"
      refine ⟨q, _, rfl, .inl ⟨SqL.of r7, fun l hl => ?_⟩⟩
      have s8 := same_new (o := .tup (row.map V.int)) hl
      walk_at "go"
      refine ⟨_, rfl, l, row, rfl, .inr (SqT.of upd_same), by omega, fun _ f2 H9 s9 f9 => ?_, fun pre x post e _ hx => absurd (hall x (by rw [e]; simp)) hx⟩
      have s79 := s8.trans s9
      have r9 := s79 _ _ r7
      have g9 := s79 _ _ g7
      have b9 := s79.seq (s7.seq b6)
      have c9 := s79.seq (s7.seq c6)
      walk_at "go"
      refine .inr (e_neLL (SqL.of f9) (SqL.of (s79 _ _ d7)) ?_)
      walk_at "go"
      refine i_neself ?_
      walk_at "go"
      refine isi_ty (b := false) (.base (.lst (s79 _ _ f7))) (kit_ty (by decide +kernel)) ?_
      walk_at "go"
      have nb : (((badL row).map fun i : Nat => (0 + (i : Int))).map V.int).length = (badL row).length := by rw [List.length_map, List.length_map]
      have nc : (((shortL row).map fun i : Nat => (0 + (i : Int))).map V.int).length = (shortL row).length := by rw [List.length_map, List.length_map]
      have fi := fine_is row
      refine e_cut (Mid := fun σ' H' => H' = H9 ∧ ∃ v6 v7 v8 v9 v11, σ' = [some (.ref sa), some (.ref p), some (.ref q), v3, some (.ref B), some (.ref C), v6, v7, v8, v9, some (.ref g), v11, some (.bl (isBlocks row)), v13]) ?_ ?_
      · walk_at "go"
        rw [ml]
        refine i_d (fun h1 => ?_) (fun h1 => ?_)
        · walk_at "go"
          rw [nb]
          refine i_d (fun h2 => ?_) (fun h2 => ?_)
          · walk_at "go"
            rw [nc]
            have ef : decide ((((shortL row).length : Nat) : Int) = 0) = isBlocks row := by
              rw [← fi, decide_eq_true (by omega : row.length ≤ 255), decide_eq_true (by omega : (badL row).length = 0), Bool.true_and, Bool.true_and]
              exact decide_eq_decide.mpr (by omega)
            rw [ef]
            exact ⟨rfl, _, _, _, _, _, rfl⟩
          · walk_at "go"
            have ef : isBlocks row = false := by
              rw [← fi, decide_eq_true (by omega : row.length ≤ 255), Bool.true_and, decide_eq_false (by omega : ¬ (badL row).length = 0), Bool.false_and]
            rw [ef]
            exact ⟨rfl, _, _, _, _, _, rfl⟩
        · walk_at "go"
          have ef : isBlocks row = false := by
            rw [← fi, decide_eq_false (by omega : ¬ row.length ≤ 255), Bool.false_and]
          rw [ef]
          exact ⟨rfl, _, _, _, _, _, rfl⟩
      rintro σ' H' ⟨rfl, v6, v7, v8, v9, v11, rfl⟩
      walk_at "go"
      refine ⟨_, rfl, g, row, rfl, .inl (SqL.of g9), fun Ha sa1 => ?_⟩
      walk_at "go"
      refine ⟨_, _, rfl, _, _, rfl, rfl, ?_⟩
      walk_at "go"
      refine i_beself ?_
      walk_at "go"
      refine ⟨q, _, rfl, .inl ⟨SqL.of (sa1 _ _ r9), fun l2 hl2 => ?_⟩⟩
      have s10 := same_new (o := .tup (row.map V.int)) hl2
      walk_at "go"
      refine ⟨_, rfl, l2, row, rfl, .inr (SqT.of upd_same), fun Hb sb1 => ?_⟩
      walk_at "go"
      refine ⟨_, _, rfl, _, _, rfl, rfl, ?_⟩
      walk_at "go"
      refine i_beself ?_
      walk_at "go"
      have sab := (sa1.trans s10).trans sb1
      refine e_eqLL (SqL.of (sab _ _ g9)) (SqL.of (sab _ _ r9)) ?_
      walk_at "go"
      rw [decide_eq_true rfl]
      exact k _
    · obtain ⟨rb, hrb⟩ := badL_first (post := post) hp1 hx
      rw [← er] at hrb
      refine e_cut (Mid := fun σ' H' => H' = H4 ∧ σ' = [some (.ref sa), some (.ref p), some (.ref q), v3, some (.ref B), some (.ref C), some (.int (0 + ((pre.length : Nat) : Int))), v7, v8, v9, none, none, none, v13]) ?_ ?_
      · walk_at "go"
        refine i_d (fun z => ?_) (fun z => ?_)
        · walk_at "go"
          refine e_ixL (v := .int (0 + ((pre.length : Nat) : Int))) b5 (by rw [hrb]; exact at_of (j := 0) rfl rfl) ?_
          exact ⟨rfl, rfl⟩
        · rw [nb, hrb] at z
          exact absurd (by rw [List.length_cons]; omega) z
      rintro σ' H5 ⟨rfl, rfl⟩
      have e0' := SqL.of (K := K) r5
      walk_at "go"
      intro g hg
      have s6 := same_new (o := .lst (row.map V.int)) hg
      have g6 : (upd H5 g (.lst (row.map V.int))) g = some (.lst (row.map V.int)) := upd_same
      have r6 := s6 _ _ r5
      have b6 := s6.seq b5
      have c6 := s6.seq c5

      generalize upd H5 g (.lst (row.map V.int)) = H6 at *
      clear s6 hg e0' r5 b5 c5
      walk_at "go"
      refine ⟨_, rfl, g, row, rfl, .inl (SqL.of g6), by omega, fun ha => absurd (ha x (by rw [er]; simp)) hx, fun pre2 x2 post2 e2 hp2 hx2 H7 s7 => ?_⟩
      obtain rfl := first_bad (er.symm.trans e2) hp1 hx hp2 hx2
      have r7 := s7 _ _ r6
      have g7 := s7 _ _ g6
      walk_at "go"
      refine e_neLL (SqL.of g7) (SqL.of r7) ?_
      walk_at "go"
      refine i_neself ?_
      walk_at "go"
      refine .inl (e_neI ?_)
      walk_at "go"
      refine i_nd (fun z => absurd (by omega) z) (fun _ => ?_)
      walk_at "go"
      refine ⟨q, _, rfl, .inl ⟨SqL.of r7, fun l hl => ?_⟩⟩
      have s8 := same_new (o := .tup (row.map V.int)) hl
      walk_at "go"
      refine ⟨_, rfl, l, row, rfl, .inr (SqT.of upd_same), by omega, fun ha => absurd (ha x (by rw [er]; simp)) hx, fun pre2 x2 post2 e2 hp2 hx2 H9 s9 => ?_⟩
      have s79 := s8.trans s9
      have r9 := s79 _ _ r7
      have g9 := s79 _ _ g7
      have b9 := s79.seq (s7.seq b6)
      have c9 := s79.seq (s7.seq c6)
      walk_at "go"
      obtain rfl := first_bad (er.symm.trans e2) hp1 hx hp2 hx2
      refine .inl (e_neI ?_)
      walk_at "go"
      refine i_nd (fun z => absurd (by omega) z) (fun _ => ?_)
      walk_at "go"
      have nb : (((badL row).map fun i : Nat => (0 + (i : Int))).map V.int).length = (badL row).length := by rw [List.length_map, List.length_map]
      have nc : (((shortL row).map fun i : Nat => (0 + (i : Int))).map V.int).length = (shortL row).length := by rw [List.length_map, List.length_map]
      have fi := fine_is row
      refine e_cut (Mid := fun σ' H' => H' = H9 ∧ ∃ v6 v7 v8 v9 v11, σ' = [some (.ref sa), some (.ref p), some (.ref q), v3, some (.ref B), some (.ref C), v6, v7, v8, v9, some (.ref g), v11, some (.bl (isBlocks row)), v13]) ?_ ?_
      · walk_at "go"
        rw [ml]
        refine i_d (fun h1 => ?_) (fun h1 => ?_)
        · walk_at "go"
          rw [nb]
          refine i_d (fun h2 => ?_) (fun h2 => ?_)
          · walk_at "go"
            rw [nc]
            have ef : decide ((((shortL row).length : Nat) : Int) = 0) = isBlocks row := by
              rw [← fi, decide_eq_true (by omega : row.length ≤ 255), decide_eq_true (by omega : (badL row).length = 0), Bool.true_and, Bool.true_and]
              exact decide_eq_decide.mpr (by omega)
            rw [ef]
            exact ⟨rfl, _, _, _, _, _, rfl⟩
          · walk_at "go"
            have ef : isBlocks row = false := by
              rw [← fi, decide_eq_true (by omega : row.length ≤ 255), Bool.true_and, decide_eq_false (by omega : ¬ (badL row).length = 0), Bool.false_and]
            rw [ef]
            exact ⟨rfl, _, _, _, _, _, rfl⟩
        · walk_at "go"
          have ef : isBlocks row = false := by
            rw [← fi, decide_eq_false (by omega : ¬ row.length ≤ 255), Bool.false_and]
          rw [ef]
          exact ⟨rfl, _, _, _, _, _, rfl⟩
      rintro σ' H' ⟨rfl, v6, v7, v8, v9, v11, rfl⟩
      walk_at "go"
      refine ⟨_, rfl, g, row, rfl, .inl (SqL.of g9), fun Ha sa1 => ?_⟩
      walk_at "go"
      refine ⟨_, _, rfl, _, _, rfl, rfl, ?_⟩
      walk_at "go"
      refine i_beself ?_
      walk_at "go"
      refine ⟨q, _, rfl, .inl ⟨SqL.of (sa1 _ _ r9), fun l2 hl2 => ?_⟩⟩
      have s10 := same_new (o := .tup (row.map V.int)) hl2
      walk_at "go"
      refine ⟨_, rfl, l2, row, rfl, .inr (SqT.of upd_same), fun Hb sb1 => ?_⟩
      walk_at "go"
      refine ⟨_, _, rfl, _, _, rfl, rfl, ?_⟩
      walk_at "go"
      refine i_beself ?_
      walk_at "go"
      have sab := (sa1.trans s10).trans sb1
      refine e_eqLL (SqL.of (sab _ _ g9)) (SqL.of (sab _ _ r9)) ?_
      walk_at "go"
      rw [decide_eq_true rfl]
      exact k _
end
set_option maxHeartbeats 0
def d_block_size : He.DefD := ⟨("block_size", none), "block_size", "block_size", defArgs s_block_size, defBody s_block_size, defScope s_block_size, [], []⟩
def d_is_block : He.DefD := ⟨("is_block", none), "is_block", "is_block", defArgs s_is_block, defBody s_is_block, defScope s_is_block, [], []⟩
def d_block_bytes : He.DefD := ⟨("block_bytes", none), "block_bytes", "block_bytes", defArgs s_block_bytes, defBody s_block_bytes, defScope s_block_bytes, [], []⟩
def d_joined : He.DefD := ⟨("joined", none), "joined", "joined", defArgs s_joined, defBody s_joined, defScope s_joined, [], []⟩
def d_is_blocks : He.DefD := ⟨("is_blocks", none), "is_blocks", "is_blocks", defArgs s_is_blocks, defBody s_is_blocks, defScope s_is_blocks, [], []⟩
def d_law_draw : He.DefD := ⟨("_law_draw", none), "_law_draw", "_law_draw", defArgs s_law_draw, defBody s_law_draw, defScope s_law_draw, [], []⟩
def d_law_integers : He.DefD := ⟨("_law_integers", none), "_law_integers", "_law_integers", defArgs s_law_integers, defBody s_law_integers, defScope s_law_integers, [], []⟩
def d_law_size : He.DefD := ⟨("_law_size", none), "_law_size", "_law_size", defArgs s_law_size, defBody s_law_size, defScope s_law_size, [], []⟩
def d_law_bytes : He.DefD := ⟨("_law_bytes", none), "_law_bytes", "_law_bytes", defArgs s_law_bytes, defBody s_law_bytes, defScope s_law_bytes, [], []⟩
def d_law_integer : He.DefD := ⟨("_law_integer", none), "_law_integer", "_law_integer", defArgs s_law_integer, defBody s_law_integer, defScope s_law_integer, [], []⟩
def d_law_outcome : He.DefD := ⟨("_law_outcome", none), "_law_outcome", "_law_outcome", defArgs s_law_outcome, defBody s_law_outcome, defScope s_law_outcome, [], []⟩
def d_law_one : He.DefD := ⟨("_law_one", none), "_law_one", "_law_one", defArgs s_law_one, defBody s_law_one, defScope s_law_one, [], []⟩
def d_law_told : He.DefD := ⟨("_law_told", none), "_law_told", "_law_told", defArgs s_law_told, defBody s_law_told, defScope s_law_told, [], []⟩
def d_law : He.DefD := ⟨("law", none), "law", "law", defArgs s_law, defBody s_law, defScope s_law, [], []⟩
def d_init_FolderkinError : He.DefD := ⟨("FolderkinError", some "__init__"), "__init__", "FolderkinError.__init__", defArgs s_FolderkinError___init__, defBody s_FolderkinError___init__, defScope s_FolderkinError___init__, [], []⟩
def fn : List He.DefD := [d_block_size, d_is_block, d_block_bytes, d_joined, d_is_blocks, d_law_draw, d_law_integers, d_law_size, d_law_bytes, d_law_integer, d_law_outcome, d_law_one, d_law_told, d_law, d_init_FolderkinError]
def ex : List (PySem.W.Frag → Bool) := [errAll "InvalidBlock" "FolderkinError"]
def fa : List He.Fa := [.glo "block_size", .glo "is_block", .glo "block_bytes", .glo "joined", .glo "is_blocks", .glo "_law_draw", .glo "_law_integers", .glo "_law_size", .glo "_law_bytes", .glo "_law_integer", .glo "_law_outcome", .glo "_law_one", .glo "_law_told", .glo "law", .glo "InvalidBlock", .glo "FolderkinError", .free "ValueError", .free "bool", .free "enumerate", .free "int", .free "isinstance", .free "len", .free "list", .free "range", .free "reversed", .free "tuple", .int "BLOCK" 4, .int "_MOST_BLOCKS" 255]
abbrev R : PySem.W.OpenRow := PySem.W.OpenLaw.row PySem.Challenge.rw_folderkin_k36_any_integers_as_blocks
abbrev hk : PySem.W.Hook := hookX 6 fa fn ex
def ob (s : PySem.W.SharedT) : AlX := obsXG 6 fa fn ex (HandSHeadRun.getT s)
theorem ob_eq (s : PySem.W.SharedT) : ob s = hk.obs s.abs := obsXG_eq (HandSHeadRun.getT_eq s)
theorem run (w : World) : HandSHeadRun.RunEq R (PySem.W.view R.prog [20]) hk ob 8000 ["FolderkinError", "InvalidBlock", "BLOCK", "_MOST_BLOCKS", "block_size", "is_block", "block_bytes", "joined", "is_blocks", "_law_draw", "_law_integers", "_law_size", "_law_bytes", "_law_integer", "_law_outcome", "_law_one", "_law_told"] w := by
  intro os
  kernel_rfl
theorem facts {P : Program} {w : World} {K : PySem.W.Frag} {h : Heap} {mg : Str → Option Value} {f : Addr} (X : K.In h) (G : h.Ns mainGlobals mg) (hfa : mg ("law" : Str) = some (.ref f)) (cc : SaysX fa fn ex K) :
    ∃ fd : FuncData, (∀ (s : Shared) (v : Value), BindsTo s fd ⟨[v], []⟩ [("script", v)]) ∧ ∀ base : Heap, K.In base → base.Ns mainGlobals mg → FnOk P w K mg base CX0 6 f fd ["script"] (sp_law K) := by
  have c : He.SaysD fa fn K := cc.1
  have k_BLOCK : ∃ u, mg "BLOCK" = some u ∧ RelV (.int 4) u := by
    obtain ⟨t, e⟩ := He.int_ok X G (c.fact 26 (f := .int "BLOCK" 4) rfl)
    exact ⟨_, e, t, rfl⟩
  have k__MOST_BLOCKS : ∃ u, mg "_MOST_BLOCKS" = some u ∧ RelV (.int 255) u := by
    obtain ⟨t, e⟩ := He.int_ok X G (c.fact 27 (f := .int "_MOST_BLOCKS" 255) rfl)
    exact ⟨_, e, t, rfl⟩
  obtain ⟨fi_InvalidBlock, Fi_InvalidBlock⟩ := c.def_ 14 (d := d_init_FolderkinError) rfl
  have er_InvalidBlock : ErrAll K mg "InvalidBlock" "FolderkinError" := errAll_ok X G (c.fact 14 (f := .glo "InvalidBlock") rfl) (c.fact 15 (f := .glo "FolderkinError") rfl) (cc.more 0 rfl) (by exact Fi_InvalidBlock)
  have T : Txt K mg := ⟨He.free_ok X G (c.fact 16 (f := .free "ValueError") rfl), He.free_ok X G (c.fact 17 (f := .free "bool") rfl), He.free_ok X G (c.fact 18 (f := .free "enumerate") rfl), He.free_ok X G (c.fact 19 (f := .free "int") rfl), He.free_ok X G (c.fact 20 (f := .free "isinstance") rfl), He.free_ok X G (c.fact 21 (f := .free "len") rfl), He.free_ok X G (c.fact 22 (f := .free "list") rfl), He.free_ok X G (c.fact 23 (f := .free "range") rfl), He.free_ok X G (c.fact 24 (f := .free "reversed") rfl), He.free_ok X G (c.fact 25 (f := .free "tuple") rfl), k_BLOCK, k__MOST_BLOCKS, er_InvalidBlock⟩
  obtain ⟨fd_block_size, F_block_size⟩ := c.def_ 0 (d := d_block_size) rfl
  have c_block_size : ∀ base : Heap, Cal P w K mg base 1 "block_size" (sp_block_size K) := fun base => ⟨_, _, ["number"], ok_block_size T  F_block_size, He.glo_ok X G (c.fact 0 (f := .glo "block_size") rfl), F_block_size.kp, FunD.bindsN F_block_size fun _ _ _ _ _ _ us hl => match us, hl with | [_], _ => rfl⟩
  obtain ⟨fd_law_draw, F_law_draw⟩ := c.def_ 5 (d := d_law_draw) rfl
  have c_law_draw : ∀ base : Heap, Cal P w K mg base 1 "_law_draw" (spDraw K) := fun base => ⟨_, _, ["state", "script", "size"], ok_law_draw T  F_law_draw, He.glo_ok X G (c.fact 5 (f := .glo "_law_draw") rfl), F_law_draw.kp, FunD.bindsN F_law_draw fun _ _ _ _ _ _ us hl => match us, hl with | [_, _, _], _ => rfl⟩
  obtain ⟨fd_law_integers, F_law_integers⟩ := c.def_ 6 (d := d_law_integers) rfl
  have c_law_integers : ∀ base : Heap, Cal P w K mg base 1 "_law_integers" (sp_law_integers K) := fun base => ⟨_, _, ["row"], ok_law_integers T  F_law_integers, He.glo_ok X G (c.fact 6 (f := .glo "_law_integers") rfl), F_law_integers.kp, FunD.bindsN F_law_integers fun _ _ _ _ _ _ us hl => match us, hl with | [_], _ => rfl⟩
  obtain ⟨fd_law_size, F_law_size⟩ := c.def_ 7 (d := d_law_size) rfl
  have c_law_size : ∀ base : Heap, Cal P w K mg base 1 "_law_size" (sp_law_size K) := fun base => ⟨_, _, ["number"], ok_law_size T  F_law_size, He.glo_ok X G (c.fact 7 (f := .glo "_law_size") rfl), F_law_size.kp, FunD.bindsN F_law_size fun _ _ _ _ _ _ us hl => match us, hl with | [_], _ => rfl⟩
  obtain ⟨fd_law_told, F_law_told⟩ := c.def_ 12 (d := d_law_told) rfl
  have c_law_told : ∀ base : Heap, Cal P w K mg base 1 "_law_told" (sp_law_told K) := fun base => ⟨_, _, ["actual", "due"], ok_law_told T  F_law_told, He.glo_ok X G (c.fact 12 (f := .glo "_law_told") rfl), F_law_told.kp, FunD.bindsN F_law_told fun _ _ _ _ _ _ us hl => match us, hl with | [_, _], _ => rfl⟩
  obtain ⟨fd_is_block, F_is_block⟩ := c.def_ 1 (d := d_is_block) rfl
  have c_is_block : ∀ base : Heap, Cal P w K mg base 2 "is_block" (sp_is_block K) := fun base => ⟨_, _, ["number"], ok_is_block T (c_block_size base) F_is_block, He.glo_ok X G (c.fact 1 (f := .glo "is_block") rfl), F_is_block.kp, FunD.bindsN F_is_block fun _ _ _ _ _ _ us hl => match us, hl with | [_], _ => rfl⟩
  obtain ⟨fd_law_bytes, F_law_bytes⟩ := c.def_ 8 (d := d_law_bytes) rfl
  have c_law_bytes : ∀ base : Heap, Cal P w K mg base 2 "_law_bytes" (sp_law_bytes K) := fun base => ⟨_, _, ["number"], ok_law_bytes T (c_law_size base) F_law_bytes, He.glo_ok X G (c.fact 8 (f := .glo "_law_bytes") rfl), F_law_bytes.kp, FunD.bindsN F_law_bytes fun _ _ _ _ _ _ us hl => match us, hl with | [_], _ => rfl⟩
  obtain ⟨fd_law_integer, F_law_integer⟩ := c.def_ 9 (d := d_law_integer) rfl
  have c_law_integer : ∀ base : Heap, Cal P w K mg base 2 "_law_integer" (sp_law_integer K) := fun base => ⟨_, _, ["state", "script"], ok_law_integer T (c_law_draw base) F_law_integer, He.glo_ok X G (c.fact 9 (f := .glo "_law_integer") rfl), F_law_integer.kp, FunD.bindsN F_law_integer fun _ _ _ _ _ _ us hl => match us, hl with | [_, _], _ => rfl⟩
  obtain ⟨fd_block_bytes, F_block_bytes⟩ := c.def_ 2 (d := d_block_bytes) rfl
  have c_block_bytes : ∀ base : Heap, CalX P w K mg base 3 "block_bytes" (sp_block_bytesX K) := fun base => ⟨_, _, ["number"], ok_block_bytes T (c_block_size base) F_block_bytes, He.glo_ok X G (c.fact 2 (f := .glo "block_bytes") rfl), F_block_bytes.kp, FunD.bindsN F_block_bytes fun _ _ _ _ _ _ us hl => match us, hl with | [_], _ => rfl⟩
  obtain ⟨fd_is_blocks, F_is_blocks⟩ := c.def_ 4 (d := d_is_blocks) rfl
  have c_is_blocks : ∀ base : Heap, Cal P w K mg base 3 "is_blocks" (sp_is_blocks K) := fun base => ⟨_, _, ["numbers"], ok_is_blocks T (c_block_size base) (c_is_block base) F_is_blocks, He.glo_ok X G (c.fact 4 (f := .glo "is_blocks") rfl), F_is_blocks.kp, FunD.bindsN F_is_blocks fun _ _ _ _ _ _ us hl => match us, hl with | [_], _ => rfl⟩
  obtain ⟨fd_joined, F_joined⟩ := c.def_ 3 (d := d_joined) rfl
  have c_joined : ∀ base : Heap, CalX P w K mg base 4 "joined" (sp_joined K) := fun base => ⟨_, _, ["numbers"], ok_joined T (c_is_block base) (c_block_bytes base) F_joined, He.glo_ok X G (c.fact 3 (f := .glo "joined") rfl), F_joined.kp, FunD.bindsN F_joined fun _ _ _ _ _ _ us hl => match us, hl with | [_], _ => rfl⟩
  obtain ⟨fd_law_one, F_law_one⟩ := c.def_ 11 (d := d_law_one) rfl
  have c_law_one : ∀ base : Heap, Cal P w K mg base 4 "_law_one" (sp_law_one K) := fun base => ⟨_, _, ["number"], ok_law_one T (c_block_bytes base) F_law_one, He.glo_ok X G (c.fact 11 (f := .glo "_law_one") rfl), F_law_one.kp, FunD.bindsN F_law_one fun _ _ _ _ _ _ us hl => match us, hl with | [_], _ => rfl⟩
  obtain ⟨fd_law_outcome, F_law_outcome⟩ := c.def_ 10 (d := d_law_outcome) rfl
  have c_law_outcome : ∀ base : Heap, Cal P w K mg base 5 "_law_outcome" (sp_law_outcome K) := fun base => ⟨_, _, ["row"], ok_law_outcome T (c_joined base) F_law_outcome, He.glo_ok X G (c.fact 10 (f := .glo "_law_outcome") rfl), F_law_outcome.kp, FunD.bindsN F_law_outcome fun _ _ _ _ _ _ us hl => match us, hl with | [_], _ => rfl⟩
  obtain ⟨fd_law, F_law⟩ := c.def_ 13 (d := d_law) rfl
  have e := hfa.symm.trans (He.glo_ok X G (c.fact 13 (f := .glo "law") rfl))
  cases e
  have b := FunD.bindsA (ps := ["script"]) F_law fun _ _ _ _ _ _ us hl => match us, hl with | [_], _ => rfl
  exact ⟨fd_law, fun s v => b s [v] rfl, fun base _ _ => ok_law T (c_law_draw base) (c_law_integer base) (c_law_size base) (c_block_size base) (c_law_told base) (c_is_block base) (c_law_integers base) (c_law_one base) (c_law_bytes base) (c_law_outcome base) (c_is_blocks base) F_law⟩
end Vk36
set_option maxHeartbeats 0
open PySem PySem.W PySem.Calls PyProof.Rows
theorem PySem.Challenge.cw_folderkin_k36_any_integers_as_blocks_holds : PySem.Challenge.rw_folderkin_k36_any_integers_as_blocks.Holds := by
  w_on; o_law
  refine HandSHeadRun.head_any (r := OpenLaw.row PySem.Challenge.rw_folderkin_k36_any_integers_as_blocks) (q := view (OpenLaw.row PySem.Challenge.rw_folderkin_k36_any_integers_as_blocks).prog [20]) (H := Vk36.hk) (ob := Vk36.ob) (M := 8000) (loose := ["FolderkinError", "InvalidBlock", "BLOCK", "_MOST_BLOCKS", "block_size", "is_block", "block_bytes", "joined", "is_blocks", "_law_draw", "_law_integers", "_law_size", "_law_bytes", "_law_integer", "_law_outcome", "_law_one", "_law_told"]) (d := HandSHeadRun.topDef (OpenLaw.row PySem.Challenge.rw_folderkin_k36_any_integers_as_blocks).prog 20) (kwd := []) Vk36.ob_eq
    (by kernel_rfl) (fun s => by kernel_rfl) Vk36.run (by kernel_rfl) (by kernel_rfl) (by kernel_rfl) (by rfl) (by first | assumption | decide +kernel) (by decide +kernel) ⟨rfl, rfl, rfl, rfl, rfl, by decide +kernel⟩ ?hw ?hc
  case hw => w_witness2
  case hc =>
    refine L2.walk_ofE (l := PySem.Challenge.rw_folderkin_k36_any_integers_as_blocks) (n := 63) (k := 6) (x := "script") (CX := L2.CX0) rfl (by decide) (by kernel_rfl) ⟨rfl, by decide, by decide⟩ ?F (fun _ _ _ _ z => z)
    intro w mg fa h Y G hmg0
    obtain ⟨K, KX, c⟩ := Y
    have hmg : mg ("law" : PySem.Str) = some (.ref fa) := by
      have e : (HandSHeadRun.topDef (OpenLaw.row PySem.Challenge.rw_folderkin_k36_any_integers_as_blocks).prog 20).name = ("law" : PySem.Str) := by kernel_rfl
      rw [← e]
      exact hmg0
    obtain ⟨fd, hb, hF⟩ := Vk36.facts (P := (PySem.Challenge.rw_folderkin_k36_any_integers_as_blocks).prog) (w := w) KX G hmg c
    exact ⟨K, fd, Vk36.sp_law K, KX, hb, fun H a ns hl _ hS => ⟨_, rfl, a, ns, rfl, hS, hl, fun _ => rfl⟩, hF⟩
