import PyProof.Rows.All
import Wide.All
import OpenK.AllK
import Wide.FinOn
import KE.KStateDown
import HandS.ForMost
import HandS.Codes
import HandS.Defaults
import HandS.Flow
import HandS.Walk
import HandS.Wide
import HandS.IsInst
import HandS.Iter
import KE.GoesMore
import KE.GoesEnum
import KE.LtData
import KE.DataCmp
import HandS.WideBits
import HandS.RevRange
import HandS.TupLe
import HandS.TupAny
import HandS.Style
import HandS.Dict
import HandS.More
import KE.KDictPairs
import KE.OsGo
import HandS.ForSpec
import HandS.ExcIs
import KE.KExcIs
import HandS.Head0
import HandS.Head1
import HandS.Head2
import HandS.HeadEnd
import HandS.HeadHook1
import HandS.HeadHook2
import HandS.Gcd
import HandS.Text
import HandS.StrMore
import Lean
import HandS.Head3
import PySem.Challenge.RW_folderkin_k54_sealed_names_and_contents
set_option Elab.async false
set_option linter.all false
set_option maxRecDepth 100000
set_option maxHeartbeats 4000000
namespace Vf
open PySem L2 PySem.Spec PyProof.Rows

/-- what is left of a loop, of a comprehension, behind what it walks -/
def ForB (J : It) (g : TG) (t : TS) (D : Ends) (σ : L2.St) (H1 : Hp) : Prop := ∃ W : Nat → Nat → L2.St → Hp → Prop, (∃ m, W 0 m σ H1) ∧ ∀ i m σ H, W i m σ H →
  (J.stop i H ∧ D.nx σ H) ∨ (J.go i H ∧ ∃ N : L2.St → Hp → Prop, (∀ σ' H', N σ' H' → ∃ m', m' < m ∧ W (i + 1) m' σ' H') ∧ ∀ x H', J.yld i H x H' → g x σ H' fun σ2 H2 => t { D with nx := N, ct := N, bk := D.nx } σ2 H2)
def LcB (J : It) (g : TG) (tt : TT) (te : TE) (vs : List Nat) (σ : L2.St) (D : Addr) (H1 : Hp) (Q : VK) : Prop := ∃ W : Nat → Nat → Hp → Prop, (∃ m, W 0 m (upd H1 D (.lst []))) ∧ ∀ i m H, W i m H →
  (J.stop i H ∧ Q (.ref D) H) ∨ (J.go i H ∧
    ∃ Nx : Hp → Prop, (∀ H', Nx H' → ∃ m', m' < m ∧ W (i + 1) m' H') ∧
    ∀ x H', J.yld i H x H' → g x (wipe σ vs) H' fun σ2 H2 => wipe σ2 vs = wipe σ vs ∧ tt σ2 H2 fun b H3 =>
    if b = true then te σ2 H3 fun y H4 => 
      ∃ acc, H4 D = some (.lst acc) ∧ acc.length < sizeLine ∧
      Nx (upd H4 D (.lst (acc ++ [y]))) else Nx H3)
section
variable {K : PySem.W.Frag} {g : TG} {t : TS} {D : Ends} {σ : L2.St} {H : Hp} {tt : TT} {te : TE} {vs : List Nat} {Q : VK} {Da : Addr}
/-- for c in z, a text: Pv by the signs gone -/
theorem for_str {z : Str} (Pv : List Nat → L2.St → Hp → Prop) (h0 : Pv [] σ H)
    (hs : ∀ (pre : List Nat) (c : Nat) (post : List Nat) σ H, z.cps.toList = pre ++ c :: post → Pv pre σ H → g (.str ⟨#[c]⟩) σ H fun σ2 H2 => t { D with nx := Pv (pre ++ [c]), ct := Pv (pre ++ [c]), bk := D.nx } σ2 H2)
    (hd : ∀ σ H, Pv z.cps.toList σ H → D.nx σ H) : ForB (Its z) g t D σ H := by
  refine for_it walk_str (fun i => Pv (z.cps.toList.take i)) (by simpa using h0) (fun _ _ _ _ _ => trivial) (fun i x σ H H' hi p y => ?_) (fun σ H p => ?_)
  · obtain ⟨e, c, hc, hx⟩ := y
    subst e hx
    have hc' : z.cps.toList[i]? = some c := by simpa using hc
    have hi' : i < z.cps.toList.length := by simpa using hi
    have e1 : z.cps.toList = z.cps.toList.take i ++ c :: z.cps.toList.drop (i + 1) := by
      have e2 := (List.getElem?_eq_some_iff.mp hc').2
      rw [← e2, List.getElem_cons_drop, List.take_append_drop]
    have e3 : z.cps.toList.take (i + 1) = z.cps.toList.take i ++ [c] := by
      rw [List.take_add_one, hc']; rfl
    rw [e3]
    exact hs _ c _ σ _ e1 p
  · refine hd σ H ?_
    have e : z.cps.toList.take z.cps.size = z.cps.toList := List.take_of_length_le (by simp)
    rw [← e]
    exact p
theorem lc_str {z : Str} (Pv : List Nat → Hp → Prop) (h0 : Pv [] (upd H Da (.lst [])))
    (hs : ∀ (pre : List Nat) (c : Nat) (post : List Nat) H, z.cps.toList = pre ++ c :: post → Pv pre H → g (.str ⟨#[c]⟩) (wipe σ vs) H fun σ2 H2 => wipe σ2 vs = wipe σ vs ∧ tt σ2 H2 fun b H3 =>
      if b = true then te σ2 H3 fun y H4 => ∃ acc, H4 Da = some (.lst acc) ∧ acc.length < sizeLine ∧ Pv (pre ++ [c]) (upd H4 Da (.lst (acc ++ [y]))) else Pv (pre ++ [c]) H3)
    (hd : ∀ H, Pv z.cps.toList H → Q (.ref Da) H) : LcB (Its z) g tt te vs σ Da H Q := by
  refine lc_it walk_str (fun i => Pv (z.cps.toList.take i)) (by simpa using h0) (fun _ _ _ _ => trivial) (fun i x H H' hi p y => ?_) (fun H p => ?_)
  · obtain ⟨e, c, hc, hx⟩ := y
    subst e hx
    have hc' : z.cps.toList[i]? = some c := by simpa using hc
    have e1 : z.cps.toList = z.cps.toList.take i ++ c :: z.cps.toList.drop (i + 1) := by
      have e2 := (List.getElem?_eq_some_iff.mp hc').2
      rw [← e2, List.getElem_cons_drop, List.take_append_drop]
    have e3 : z.cps.toList.take (i + 1) = z.cps.toList.take i ++ [c] := by
      rw [List.take_add_one, hc']; rfl
    rw [e3]
    exact hs _ c _ _ e1 p
  · refine hd H ?_
    have e : z.cps.toList.take z.cps.size = z.cps.toList := List.take_of_length_le (by simp)
    rw [← e]
    exact p
theorem for_rng {lo : Int} {n : Nat} (Pv : Nat → L2.St → Hp → Prop) (h0 : Pv 0 σ H)
    (hs : ∀ i σ H, i < n → Pv i σ H → g (.int (lo + i)) σ H fun σ2 H2 => t { D with nx := Pv (i + 1), ct := Pv (i + 1), bk := D.nx } σ2 H2) (hd : ∀ σ H, Pv n σ H → D.nx σ H) : ForB (Itr lo n) g t D σ H := for_range Pv h0 hs hd
theorem lc_rng {lo : Int} {n : Nat} (Pv : Nat → Hp → Prop) (h0 : Pv 0 (upd H Da (.lst [])))
    (hs : ∀ i H, i < n → Pv i H → g (.int (lo + i)) (wipe σ vs) H 
      fun σ2 H2 => wipe σ2 vs = wipe σ vs ∧ tt σ2 H2 fun b H3 =>
      if b = true then te σ2 H3 fun y H4 => ∃ acc, H4 Da = some (.lst acc) ∧ acc.length < sizeLine ∧ Pv (i + 1) (upd H4 Da (.lst (acc ++ [y]))) else Pv (i + 1) H3) (hd : ∀ H, Pv n H → Q (.ref Da) H) :
    LcB (Itr lo n) g tt te vs σ Da H Q := lc_range Pv h0 hs hd
/-- for x in xs, a list: Pv by what was taken -/
theorem for_lst {a : Addr} {xs : List V} (Pv : List V → L2.St → Hp → Prop) (h0 : Pv [] σ H) (hl : ∀ pre σ H, Pv pre σ H → SqL K H a xs)
    (hs : ∀ (pre : List V) (x : V) (post : List V) σ H, xs = pre ++ x :: post → Pv pre σ H → g x σ H fun σ2 H2 => t { D with nx := Pv (pre ++ [x]), ct := Pv (pre ++ [x]), bk := D.nx } σ2 H2)
    (hd : ∀ σ H, Pv xs σ H → D.nx σ H) : ForB (Itl K a) g t D σ H := by
  refine for_list (xs := xs) (fun i => Pv (xs.take i)) (by simpa using h0) (fun i σ H _ p => hl _ σ H p) (fun i x σ H hx p => ?_) (fun σ H p => ?_)
  · have e1 : xs = xs.take i ++ x :: xs.drop (i + 1) := by
      have e2 := (List.getElem?_eq_some_iff.mp hx).2
      rw [← e2, List.getElem_cons_drop, List.take_append_drop]
    have e3 : xs.take (i + 1) = xs.take i ++ [x] := by
      rw [List.take_add_one, hx]; rfl
    rw [e3]
    exact hs _ x _ σ H e1 p
  · rw [List.take_length] at p
    exact hd σ H p
theorem lc_lst {a : Addr} {xs : List V} (Pv : List V → Hp → Prop) (h0 : Pv [] (upd H Da (.lst []))) (hl : ∀ pre H, Pv pre H → SqL K H a xs)
    (hs : ∀ (pre : List V) (x : V) (post : List V) H, xs = pre ++ x :: post → Pv pre H → g x (wipe σ vs) H fun σ2 H2 => wipe σ2 vs = wipe σ vs ∧ tt σ2 H2 fun b H3 =>
      if b = true then te σ2 H3 fun y H4 => ∃ acc, H4 Da = some (.lst acc) ∧ acc.length < sizeLine ∧ Pv (pre ++ [x]) (upd H4 Da (.lst (acc ++ [y]))) else Pv (pre ++ [x]) H3)
    (hd : ∀ H, Pv xs H → Q (.ref Da) H) : LcB (Itl K a) g tt te vs σ Da H Q := by
  refine lc_list (xs := xs) (fun i => Pv (xs.take i)) (by simpa using h0) (fun i H _ p => hl _ H p) (fun i x H hx p => ?_) (fun H p => ?_)
  · have e1 : xs = xs.take i ++ x :: xs.drop (i + 1) := by
      have e2 := (List.getElem?_eq_some_iff.mp hx).2
      rw [← e2, List.getElem_cons_drop, List.take_append_drop]
    have e3 : xs.take (i + 1) = xs.take i ++ [x] := by
      rw [List.take_add_one, hx]; rfl
    rw [e3]
    exact hs _ x _ H e1 p
  · rw [List.take_length] at p
    exact hd H p
theorem for_tpl {a : Addr} {xs : List V} (Pv : List V → L2.St → Hp → Prop) (h0 : Pv [] σ H) (hl : ∀ pre σ H, Pv pre σ H → SqT K H a xs)
    (hs : ∀ (pre : List V) (x : V) (post : List V) σ H, xs = pre ++ x :: post → Pv pre σ H → g x σ H fun σ2 H2 => t { D with nx := Pv (pre ++ [x]), ct := Pv (pre ++ [x]), bk := D.nx } σ2 H2)
    (hd : ∀ σ H, Pv xs σ H → D.nx σ H) : ForB (Itt K a) g t D σ H := by
  refine for_tup (xs := xs) (fun i => Pv (xs.take i)) (by simpa using h0) (fun i σ H _ p => hl _ σ H p) (fun i x σ H hx p => ?_) (fun σ H p => ?_)
  · have e1 : xs = xs.take i ++ x :: xs.drop (i + 1) := by
      have e2 := (List.getElem?_eq_some_iff.mp hx).2
      rw [← e2, List.getElem_cons_drop, List.take_append_drop]
    have e3 : xs.take (i + 1) = xs.take i ++ [x] := by
      rw [List.take_add_one, hx]; rfl
    rw [e3]
    exact hs _ x _ σ H e1 p
  · rw [List.take_length] at p
    exact hd σ H p
end

/-! ### readings, one lemma a head -/
section
variable {σ : L2.St} {H : Hp} {Q : VK} {D : Ends} {te ta tb tx : TE} {tt tu : TT} {t u : TS} {as : TA} {r r' : R2} {x y v : V} {K : PySem.W.Frag}
theorem e_var {i : Nat} (h : σ[i]? = some (some v)) (q : Q v H) : tVar i σ H Q := ⟨v, h, q⟩
theorem e_c (q : Q v H) : tC v σ H Q := q
theorem e_op (q : ta σ H fun x H1 => tb σ H1 fun y H2 => r x y H2 Q) : tOp r ta tb σ H Q := q
theorem e_un {r : V → Hp → VK → Prop} (q : ta σ H fun x H1 => r x H1 Q) : tUn r ta σ H Q := q
theorem e_I0 {g : Int → Int → V} {i j : Int} (q : Q (g i j) H) : rI0 g (.int i) (.int j) H Q := ⟨i, j, rfl, rfl, q⟩
theorem e_I {C : Int → Int → Prop} {g : Int → Int → V} {i j : Int} (c : C i j) (q : Q (g i j) H) : rI C g (.int i) (.int j) H Q := ⟨i, j, rfl, rfl, c, q⟩
theorem e_U {g : Int → V} {i : Int} (q : Q (g i) H) : rU g (.int i) H Q := ⟨i, rfl, q⟩
theorem e_eq (s : scal x y = true) (q : Q (.bl (decide (x = y))) H) : rEq x y H Q := ⟨s, q⟩
theorem e_ne (s : scal x y = true) (q : Q (.bl (!decide (x = y))) H) : rNe x y H Q := ⟨s, q⟩
theorem e_eqI {i j : Int} (q : Q (.bl (decide (i = j))) H) : rEq (.int i) (.int j) H Q := ⟨rfl, by
  have e : decide (V.int i = V.int j) = decide (i = j) := by
    by_cases h : i = j
    · rw [h]; simp
    · rw [decide_eq_false h, decide_eq_false (fun z => h (V.int.inj z))]
  rw [e]; exact q⟩
theorem e_neI {i j : Int} (q : Q (.bl (!decide (i = j))) H) : rNe (.int i) (.int j) H Q := ⟨rfl, by
  have e : decide (V.int i = V.int j) = decide (i = j) := by
    by_cases h : i = j
    · rw [h]; simp
    · rw [decide_eq_false h, decide_eq_false (fun z => h (V.int.inj z))]
  rw [e]; exact q⟩
theorem e_eqS {i j : Str} (q : Q (.bl (decide (i = j))) H) : rEq (.str i) (.str j) H Q := ⟨rfl, by
  have e : decide (V.str i = V.str j) = decide (i = j) := by
    by_cases h : i = j
    · rw [h]; simp
    · rw [decide_eq_false h, decide_eq_false (fun z => h (V.str.inj z))]
  rw [e]; exact q⟩
theorem e_neS {i j : Str} (q : Q (.bl (!decide (i = j))) H) : rNe (.str i) (.str j) H Q := ⟨rfl, by
  have e : decide (V.str i = V.str j) = decide (i = j) := by
    by_cases h : i = j
    · rw [h]; simp
    · rw [decide_eq_false h, decide_eq_false (fun z => h (V.str.inj z))]
  rw [e]; exact q⟩
theorem e_eqB {i j : Bool} (q : Q (.bl (i == j)) H) : rEq (.bl i) (.bl j) H Q := ⟨rfl, by
  have e : decide (V.bl i = V.bl j) = (i == j) := by cases i <;> cases j <;> rfl
  rw [e]; exact q⟩
theorem e_neB {i j : Bool} (q : Q (.bl (i != j)) H) : rNe (.bl i) (.bl j) H Q := ⟨rfl, by
  have e : (!decide (V.bl i = V.bl j)) = (i != j) := by cases i <;> cases j <;> rfl
  rw [e]; exact q⟩
theorem e_test {Q : Bool → Hp → Prop} (q : te σ H fun x H' => ∃ k, x = .bl k ∧ Q k H') : tTest te σ H Q := q
theorem e_B {Q : Bool → Hp → Prop} (q : te σ H fun x H' => ∃ k, x = .bl k ∧ Q k H') : tB te σ H Q := q
theorem e_ex {b : Bool} {P : Bool → Prop} (q : P b) : ∃ k, V.bl b = .bl k ∧ P k := ⟨b, rfl, q⟩
theorem e_and {Q : Bool → Hp → Prop} (q : tt σ H fun c H1 => if c = true then tu σ H1 Q else Q false H1) : tAnd tt tu σ H Q := q
theorem e_or {Q : Bool → Hp → Prop} (q : tt σ H fun c H1 => if c = true then Q true H1 else tu σ H1 Q) : tOr tt tu σ H Q := q
theorem e_not {Q : Bool → Hp → Prop} (q : tt σ H fun c H1 => Q (!c) H1) : tNot tt σ H Q := q
theorem e_yes {Q : Bool → Hp → Prop} (q : Q true H) : tYes σ H Q := q
theorem e_andV (q : ta σ H fun x H1 => ∃ c, x = .bl c ∧ if c = true then tb σ H1 Q else Q (.bl false) H1) : tAndV ta tb σ H Q := q
theorem e_orV (q : ta σ H fun x H1 => ∃ c, x = .bl c ∧ if c = true then Q (.bl true) H1 else tb σ H1 Q) : tOrV ta tb σ H Q := q
theorem e_notV (q : ta σ H fun x H1 => ∃ c, x = .bl c ∧ Q (.bl (!c)) H1) : tNotV ta σ H Q := q
theorem e_if (q : tt σ H fun c H1 => if c = true then ta σ H1 Q else tb σ H1 Q) : tIf tt ta tb σ H Q := q
theorem e_chain (q : ta σ H fun x H1 => tb σ H1 fun y H2 => r x y H2 fun z H3 => ∃ k, z = .bl k ∧ (if k = true then tx σ H3 fun w' H4 => r' y w' H4 Q else Q (.bl false) H3)) : tChain r r' ta tb tx σ H Q := q
theorem e_seq (q : t { D with nx := u D } σ H) : tSeq t u D σ H := q
theorem e_next (q : D.nx σ H) : tNext D σ H := q
theorem e_break (q : D.bk σ H) : tBreak D σ H := q
theorem e_cont (q : D.ct σ H) : tCont D σ H := q
theorem e_drop (q : te σ H fun _ H1 => D.nx σ H1) : tDrop te D σ H := q
theorem e_ret (q : te σ H D.rt) : tRet te D σ H := q
theorem e_retN (q : D.rt .non H) : tRetN D σ H := q
theorem e_ifS (q : tt σ H fun b H1 => if b = true then t D σ H1 else u D σ H1) : tIfS tt t u D σ H := q
theorem e_asg {g : TG} (q : te σ H fun x H1 => g x σ H1 D.nx) : tAsg te g D σ H := q
theorem e_name {i : Nat} {Q : L2.St → Hp → Prop} (q : Q (σ.set i (some v)) H) : gName i v σ H Q := q
theorem e_sub {to ti : TE} {st : TSet} {Q : L2.St → Hp → Prop} (q : to σ H fun o H1 => ti σ H1 fun i H2 => st o i v H2 fun H3 => Q σ H3) : gSub to ti st v σ H Q := q
theorem e_aug {i : Nat} {ti : TIp} (h : σ[i]? = some (some x)) (q : te σ H fun y H1 => ti x y H1 fun z H2 => D.nx (σ.set i (some z)) H2) : tAug i te ti D σ H := ⟨x, h, q⟩
theorem e_nil {Q : List V → Hp → Prop} (q : Q [] H) : tNil σ H Q := q
theorem e_cons {Q : List V → Hp → Prop} (q : ta σ H fun x H1 => as σ H1 fun xs H2 => Q (x :: xs) H2) : tCons ta as σ H Q := q
theorem e_call {sp : Sp} {dvs : List V} {E : XK} (q : as σ H fun vs H1 => sp (vs ++ dvs) H1 Q E) : tCall sp dvs E as σ H Q := q
theorem e_CB {r : List V → Hp → VK → Prop} (q : as σ H fun vs H1 => r vs H1 Q) : tCB r as σ H Q := q
theorem e_tup (q : as σ H fun xs H1 => xs.length ≤ sizeLine ∧ ∀ p, H1 p = none → Q (.ref p) (upd H1 p (.tup xs))) : tTup as σ H Q := q
theorem e_lst (q : as σ H fun xs H1 => xs.length ≤ sizeLine ∧ ∀ p, H1 p = none → Q (.ref p) (upd H1 p (.lst xs))) : tLst as σ H Q := q
theorem e_sl {r : V → Option Int → Option Int → Hp → VK → Prop} {tl th : TO} (q : te σ H fun x H1 => tl σ H1 fun l H2 => th σ H2 fun u H3 => r x l u H3 Q) : tSl r te tl th σ H Q := q
theorem e_noP {Q : Option Int → Hp → Prop} (q : Q none H) : tNoPart σ H Q := q
theorem e_part {Q : Option Int → Hp → Prop} (q : te σ H fun x H1 => ∃ i, x = .int i ∧ Q (some i) H1) : tPart te σ H Q := q
theorem e_exI {i : Int} {P : Int → Prop} (q : P i) : ∃ k, V.int i = .int k ∧ P k := ⟨i, rfl, q⟩
theorem e_bm {T : String} {r : V → List V → Hp → VK → Prop} {to : TE} (q : to σ H fun x H1 => tyV K T x H1 ∧ as σ H1 fun xs H2 => r x xs H2 Q) : tBM K T r to as σ H Q := q
theorem e_for {wi : TI} {g : TG} (q : wi σ H fun J H1 => ForB J g t D σ H1) : tFor wi g t D σ H := q
theorem e_lc {wi : TI} {g : TG} {vs : List Nat} (q : wi σ H fun J H1 => ∀ D, H1 D = none → LcB J g tt te vs σ D H1 Q) : tLc wi g tt te vs σ H Q := q
theorem e_exS {i : Str} {P : Str → Prop} (q : P i) : ∃ k, V.str i = .str k ∧ P k := ⟨i, rfl, q⟩
theorem e_exR {a : Addr} {xs : List V} {P : Addr → Prop} (h : SqL K H a xs) (q : P a) : ∃ k, V.ref a = .ref k ∧ (∃ xs, SqL K H k xs) ∧ P k := ⟨a, rfl, ⟨xs, h⟩, q⟩
theorem e_exRT {a : Addr} {xs : List V} {P : Addr → Prop} (h : SqT K H a xs) (q : P a) : ∃ k, V.ref a = .ref k ∧ (∃ xs, SqT K H k xs) ∧ P k := ⟨a, rfl, ⟨xs, h⟩, q⟩
theorem e_rng1 {n : Int} {P : Int → Prop} (h1 : -(2 ^ 62) ≤ n) (h2 : n < 2 ^ 62) (q : P n) : ∃ j : Int, [V.int n] = [.int j] ∧ -(2 ^ 62) ≤ j ∧ j < 2 ^ 62 ∧ P j := ⟨n, rfl, h1, h2, q⟩
theorem e_rng2 {m n : Int} {P : Int → Int → Prop} (h : -(2 ^ 62) ≤ m ∧ m < 2 ^ 62 ∧ -(2 ^ 62) ≤ n ∧ n < 2 ^ 62) (q : P m n) : ∃ i j : Int, [V.int m, V.int n] = [.int i, .int j] ∧ (-(2 ^ 62) ≤ i ∧ i < 2 ^ 62 ∧ -(2 ^ 62) ≤ j ∧ j < 2 ^ 62) ∧ P i j := ⟨m, n, rfl, h, q⟩
theorem e_m0 {r : V → List V → Hp → VK → Prop} {to : TE} (q : to σ H fun x H1 => (∃ a, x = .str a) ∧ r x [] H1 Q) : tM0 r to σ H Q := q
theorem e_m1 {r : V → List V → Hp → VK → Prop} {to : TE} (q : to σ H fun x H1 => (∃ a, x = .str a) ∧ te σ H1 fun y H2 => r x [y] H2 Q) : tM1 r to te σ H Q := q
theorem e_slS {z : Str} {lo hi : Option Int} (h : z.length ≤ sizeLine) (q : Q (.str (cutS z lo hi)) H) : rSlS (.str z) lo hi H Q := ⟨z, rfl, h, q⟩
theorem e_iList {R : It → Hp → Prop} {tl : TE} (q : tl σ H fun x H1 => ∃ a, x = .ref a ∧ (∃ xs, SqL K H1 a xs) ∧ R (Itl K a) H1) : iList K tl σ H R := q
theorem e_iTup {R : It → Hp → Prop} {tl : TE} (q : tl σ H fun x H1 => ∃ a, x = .ref a ∧ (∃ xs, SqT K H1 a xs) ∧ R (Itt K a) H1) : iTup K tl σ H R := q
theorem e_iStr {R : It → Hp → Prop} {tl : TE} (q : tl σ H fun v H1 => ∃ x, v = .str x ∧ R (Its x) H1) : iStr tl σ H R := q
theorem e_iRng1 {R : It → Hp → Prop} (q : as σ H fun vs H1 => ∃ j : Int, vs = [.int j] ∧ -(2 ^ 62) ≤ j ∧ j < 2 ^ 62 ∧ R (Itr 0 j.toNat) H1) : iRng1 as σ H R := q
theorem e_iRng2 {R : It → Hp → Prop} (q : as σ H fun vs H1 => ∃ i j : Int, vs = [.int i, .int j] ∧ (-(2 ^ 62) ≤ i ∧ i < 2 ^ 62 ∧ -(2 ^ 62) ≤ j ∧ j < 2 ^ 62) ∧ R (Itr i (j - i).toNat) H1) : iRng2 as σ H R := q
theorem e_ixL {p : Addr} {xs : List V} {i : Int} (h : SqL K H p xs) (ha : atI xs i = some v) (q : Q v H) : rIxL K (.ref p) (.int i) H Q := ⟨p, xs, i, v, rfl, rfl, h, ha, q⟩
theorem e_ixT {p : Addr} {xs : List V} {i : Int} (h : SqT K H p xs) (ha : atI xs i = some v) (q : Q v H) : rIxT K (.ref p) (.int i) H Q := ⟨p, xs, i, v, rfl, rfl, h, ha, q⟩
theorem e_ixS {z : Str} {i : Int} {c : Nat} (hz : z.length ≤ sizeLine) (ha : atI z.cps.toList i = some c) (q : Q (.str ⟨#[c]⟩) H) : rIxS (.str z) (.int i) H Q := ⟨z, i, c, rfl, rfl, hz, ha, q⟩
theorem e_len {p : Addr} {ys : List V} (h : SqL K H p ys) (q : Q (.int ys.length) H) : ∃ p' ys', [V.ref p] = [V.ref p'] ∧ (SqL K H p' ys' ∨ SqT K H p' ys') ∧ Q (.int (ys'.length : Nat)) H := ⟨p, ys, rfl, .inl h, q⟩
theorem e_lenT {p : Addr} {ys : List V} (h : SqT K H p ys) (q : Q (.int ys.length) H) : ∃ p' ys', [V.ref p] = [V.ref p'] ∧ (SqL K H p' ys' ∨ SqT K H p' ys') ∧ Q (.int (ys'.length : Nat)) H := ⟨p, ys, rfl, .inr h, q⟩
theorem e_lenS {z : Str} (h : z.length ≤ sizeLine) (q : Q (.int z.length) H) : ∃ z', [V.str z] = [V.str z'] ∧ z'.length ≤ sizeLine ∧ Q (.int (z'.length : Nat)) H := ⟨z, rfl, h, q⟩
theorem e_int1 {i : Int} (q : Q (.int i) H) : (∃ i', [V.int i] = [V.int i'] ∧ Q (.int i') H) ∨ ∃ k, [V.int i] = [V.bl k] ∧ Q (.int (if k = true then 1 else 0)) H := .inl ⟨i, rfl, q⟩
theorem e_setL {p : Addr} {xs : List V} {k : Int} {j : Nat} {Q : Hp → Prop} (h : H p = some (.lst xs)) (hj : ixN xs.length k = some j) (q : Q (upd H p (.lst (xs.set j v)))) : rSetL (.ref p) (.int k) v H Q := ⟨p, xs, k, j, rfl, rfl, h, hj, q⟩
theorem e_cut {Mid : L2.St → Hp → Prop} (h1 : t { D with nx := Mid } σ H) (h2 : ∀ σ' H', Mid σ' H' → u D σ' H') : C8.tCut t u D σ H := ⟨Mid, h1, h2⟩
/-- a test that is known, or open -/
theorem i_T {A B : Prop} (h : A) : if true = true then A else B := by rw [if_pos rfl]; exact h
theorem i_F {A B : Prop} (h : B) : if false = true then A else B := by rw [if_neg Bool.false_ne_true]; exact h
theorem i_d {p : Prop} [Decidable p] {A B : Prop} (h1 : p → A) (h2 : ¬ p → B) : if decide p = true then A else B := by
  by_cases h : p
  · rw [decide_eq_true h]; exact i_T (h1 h)
  · rw [decide_eq_false h]; exact i_F (h2 h)
theorem i_nd {p : Prop} [Decidable p] {A B : Prop} (h1 : ¬ p → A) (h2 : p → B) : if (!decide p) = true then A else B := by
  by_cases h : p
  · rw [decide_eq_true h]; exact i_F (h2 h)
  · rw [decide_eq_false h]; exact i_T (h1 h)
theorem i_b {b : Bool} {A B : Prop} (h1 : b = true → A) (h2 : b = false → B) : if b = true then A else B := by
  cases b
  · exact i_F (h2 rfl)
  · exact i_T (h1 rfl)
theorem i_nself {b : Bool} {A B : Prop} (h : B) : if (!(b == b)) = true then A else B := by
  rw [beq_self_eq_true]; exact i_F h
theorem i_self {α : Type} [DecidableEq α] {x : α} {A B : Prop} (h : A) : if decide (x = x) = true then A else B := by
  rw [decide_eq_true rfl]; exact i_T h
theorem i_neself {α : Type} [DecidableEq α] {x : α} {A B : Prop} (h : B) : if (!decide (x = x)) = true then A else B := by
  rw [decide_eq_true rfl]; exact i_F h
theorem i_nb {b : Bool} {A B : Prop} (h1 : b = false → A) (h2 : b = true → B) : if (!b) = true then A else B := by
  cases b
  · exact i_T (h1 rfl)
  · exact i_F (h2 rfl)
end

section
variable {K : PySem.W.Frag} {H : Hp} {Q : VK}
theorem isi_ty {x : V} {t n : String} {b : Bool} (ty : TyX K H x (.type t)) (e : PySem.W.kitOne K (.type t) (.type n) = some b) (q : Q (.bl b) H) : rIsi K [x, .ty n] H Q := ⟨x, .ty n, _, _, b, rfl, .ty n, ty, e, q⟩
theorem isi_bb {x : Bool} (q : Q (.bl true) H) : rIsi K [.bl x, .ty "bool"] H Q := isi_ty (.base (.bl x)) (kit_ty (by decide +kernel)) q
theorem isi_ib {x : Int} (q : Q (.bl false) H) : rIsi K [.int x, .ty "bool"] H Q := isi_ty (.base (.int x)) (kit_ty (by decide +kernel)) q
theorem isi_bi {x : Bool} (q : Q (.bl true) H) : rIsi K [.bl x, .ty "int"] H Q := isi_ty (.base (.bl x)) (kit_ty (by decide +kernel)) q
theorem isi_ii {x : Int} (q : Q (.bl true) H) : rIsi K [.int x, .ty "int"] H Q := isi_ty (.base (.int x)) (kit_ty (by decide +kernel)) q
theorem isi_si {x : Str} (q : Q (.bl false) H) : rIsi K [.str x, .ty "int"] H Q := isi_ty (.base (.str x)) (kit_ty (by decide +kernel)) q
theorem isi_ni (q : Q (.bl false) H) : rIsi K [.non, .ty "int"] H Q := isi_ty (.base .non) (kit_ty (by decide +kernel)) q
theorem isi_tt {p : Addr} {xs : List V} (h : H p = some (.tup xs)) (q : Q (.bl true) H) : rIsi K [.ref p, .ty "tuple"] H Q := isi_ty (.base (.tup h)) (kit_ty (by decide +kernel)) q
theorem isi_ll {p : Addr} {xs : List V} (h : H p = some (.lst xs)) (q : Q (.bl true) H) : rIsi K [.ref p, .ty "list"] H Q := isi_ty (.base (.lst h)) (kit_ty (by decide +kernel)) q
theorem isi_lt {p : Addr} {xs : List V} (h : H p = some (.lst xs)) (q : Q (.bl false) H) : rIsi K [.ref p, .ty "tuple"] H Q := isi_ty (.base (.lst h)) (kit_ty (by decide +kernel)) q
end
/-! ### defs that are called by their names -/
structure Cal (P : Program) (w : World) (K : PySem.W.Frag) (mg : Str → Option Value) (base : Heap) (k : Nat) (x : Str) (sp : Sp) : Prop where
  ex : ∃ (f : Addr) (fd : FuncData) (ps : List Str), FnOk P w K mg base CX0 k f fd ps sp ∧ mg x = some (.ref f) ∧ PySem.W.keepIn K (.ref f) = true ∧ Binds K fd ps []
theorem pe_c {X : Cx} {k j : Nat} {x : Str} {sp : Sp} {p pos : Pos} {e : Expr} {es : List Expr} {t : TA} (c : Cal X.prog X.w X.K X.mg X.base k x sp) (hr : Room j X.A) (hk : k ≤ j) (hg : Gl X x) (ha : PA X (e :: es) t)
    (hdb : (x == ("__debug__" : Str)) = false := by decide) 
    (he : starEach (e :: es) X.env = (false, eval e X.env) :: starEach es X.env := by rfl) 
    (hpl : (backTo pos (starEach es X.env)).any (·.1) = false := by rfl) :
    PE X (.Call (.Name x p) (e :: es) [] pos) (tCall sp [] E0 t) := by
  obtain ⟨f, fd, ps, F, hm, kp, b⟩ := c.ex
  exact pe_call F (hr.mono hk) hg hm kp b .nil pass0 ha hdb he hpl
theorem pe_c0 {X : Cx} {k j : Nat} {x : Str} {sp : Sp} {p pos : Pos} (c : Cal X.prog X.w X.K X.mg X.base k x sp) (hr : Room j X.A) (hk : k ≤ j) (hg : Gl X x)
    (hdb : (x == ("__debug__" : Str)) = false := by decide) :
    PE X (.Call (.Name x p) [] [] pos) (tCall sp [] E0 tNil) := by
  obtain ⟨f, fd, ps, F, hm, kp, b⟩ := c.ex
  exact pe_call0 F (hr.mono hk) hg hm kp b .nil pass0 hdb

/-- promises by arity -/
abbrev sp0 (R : Hp → VK → Prop) : Sp := fun vs H Q _ => vs = [] ∧ R H Q
abbrev sp1 (R : V → Hp → VK → Prop) : Sp := fun vs H Q _ => ∃ a, vs = [a] ∧ R a H Q
abbrev sp2 (R : V → V → Hp → VK → Prop) : Sp := fun vs H Q _ => ∃ a b, vs = [a, b] ∧ R a b H Q
abbrev sp3 (R : V → V → V → Hp → VK → Prop) : Sp := fun vs H Q _ => ∃ a b c, vs = [a, b, c] ∧ R a b c H Q
abbrev sp4 (R : V → V → V → V → Hp → VK → Prop) : Sp := fun vs H Q _ => ∃ a b c d, vs = [a, b, c, d] ∧ R a b c d H Q


theorem sz_of {n : Nat} (h : n ≤ 1000000) : n ≤ sizeLine := Nat.le_trans h (by decide)
/-! ### heaps: all but one address as it was -/
def Kp (st : Addr) (H H' : Hp) : Prop := ∀ b o, b ≠ st → H b = some o → H' b = some o
theorem Kp.refl (st : Addr) (H : Hp) : Kp st H H := fun _ _ _ h => h
theorem Kp.trans {st : Addr} {H H1 H2 : Hp} (a : Kp st H H1) (b : Kp st H1 H2) : Kp st H H2 := fun c o n h => b c o n (a c o n h)
theorem Kp.of {st : Addr} {H H' : Hp} (a : Same H H') : Kp st H H' := fun c o _ h => a c o h
theorem same_new {H : Hp} {p : Addr} {o : HO} (h : H p = none) : Same H (upd H p o) := fun b x e => by
  rw [upd_ne (ne_of_none e h)]
  exact e
theorem Kp.new {st p : Addr} {H : Hp} {o : HO} (h : H p = none) : Kp st H (upd H p o) := Kp.of (same_new h)
/-- an object that was not there at first may change -/
theorem Kp.mut {st p : Addr} {H H' : Hp} {o : HO} (a : Kp st H H') (h : H p = none) : Kp st H (upd H' p o) := fun b x n e => by
  rw [upd_ne (ne_of_none e h)]
  exact a b x n e
theorem Kp.put {st : Addr} {H H' : Hp} {o : HO} (a : Kp st H H') : Kp st H (upd H' st o) := fun b x n e => by
  rw [upd_ne n]
  exact a b x n e
theorem Same.mut {p : Addr} {H H' : Hp} {o : HO} (a : Same H H') (h : H p = none) : Same H (upd H' p o) := fun b x e => by
  rw [upd_ne (ne_of_none e h)]
  exact a b x e
theorem Kp.free {st p : Addr} {H H' : Hp} (a : Kp st H H') (hs : ∃ o, H' st = some o) (h : H' p = none) : H p = none := by
  cases q : H p with
  | none => rfl
  | some o =>
    by_cases e : p = st
    · obtain ⟨o', h'⟩ := hs
      rw [e, h'] at h
      cases h
    · rw [a p o e q] at h
      cases h

/-- the state of the draws and the script: two ints at st, the script at sc whatever is drawn -/
structure Dr (K : PySem.W.Frag) (st sc : Addr) (ns : List Int) (H : Hp) : Prop where
  s : ∃ a b : Int, 0 ≤ a ∧ 0 ≤ b ∧ H st = some (.lst [.int a, .int b])
  sc : ∀ H', Kp st H H' → SqL K H' sc (ns.map V.int)
  len : ns.length ≤ 63
theorem Dr.kp {K : PySem.W.Frag} {st sc : Addr} {ns : List Int} {H H' : Hp} (d : Dr K st sc ns H) (k : Kp st H H') (s : ∃ a b : Int, 0 ≤ a ∧ 0 ≤ b ∧ H' st = some (.lst [.int a, .int b])) : Dr K st sc ns H' :=
  ⟨s, fun H2 k2 => d.sc H2 (k.trans k2), d.len⟩
theorem Dr.same {K : PySem.W.Frag} {st sc : Addr} {ns : List Int} {H H' : Hp} (d : Dr K st sc ns H) (k : Same H H') : Dr K st sc ns H' := by
  obtain ⟨a, b, h1, h2, h3⟩ := d.s
  exact d.kp (Kp.of k) ⟨a, b, h1, h2, k _ _ h3⟩
theorem Dr.seq {K : PySem.W.Frag} {st sc : Addr} {ns : List Int} {H : Hp} (d : Dr K st sc ns H) : SqL K H sc (ns.map V.int) := d.sc H (Kp.refl st H)
theorem sq_keep {K : PySem.W.Frag} {H H' : Hp} {a p : Addr} {xs : List V} (h : SqL K H a xs) (hp : H p = none) (k : Kp p H H') : SqL K H' a xs := by
  rcases h with (h | ⟨c9, h⟩) | h
  · exact .inl (.inl (k _ _ (ne_of_none h hp) h))
  · exact .inl (.inr ⟨c9, k _ _ (ne_of_none h hp) h⟩)
  · exact .inr h
theorem Dr.start {K : PySem.W.Frag} {st sc : Addr} {ns : List Int} {H : Hp} (h : SqL K H sc (ns.map V.int)) (hp : H st = none) (hl : ns.length ≤ 63) : Dr K st sc ns (upd H st (.lst [.int 0, .int 0])) :=
  ⟨⟨0, 0, by decide, by decide, upd_same⟩, fun H' k => sq_keep h hp fun b o n e => k b o n (by rw [upd_ne n]; exact e), hl⟩
theorem Dr.ne {K : PySem.W.Frag} {st sc p : Addr} {ns : List Int} {H : Hp} (d : Dr K st sc ns H) (h : H p = none) : p ≠ st := by
  obtain ⟨a, b, _, _, h3⟩ := d.s
  intro e
  rw [e, h3] at h
  cases h
theorem pick_int {l : List Int} {d : Int} (h0 : 0 ≤ d) (h1 : d < l.length) : ∃ n, n ∈ l ∧ atI (l.map V.int) d = some (.int n) := by
  have h : d.toNat < l.length := by omega
  exact ⟨l[d.toNat], List.getElem_mem h, at_of (j := d.toNat) (by omega) (by rw [List.getElem?_map, List.getElem?_eq_getElem h]; rfl)⟩
theorem pick_nat {l : List Nat} {d : Int} (h0 : 0 ≤ d) (h1 : d < l.length) : ∃ n, n ∈ l ∧ atI l d = some n := by
  have h : d.toNat < l.length := by omega
  obtain ⟨j, hj⟩ : ∃ j : Nat, d = (j : Int) := ⟨d.toNat, by omega⟩
  have h2 : j < l.length := by omega
  subst hj
  exact ⟨l[j], List.getElem_mem h2, atI_nat (List.getElem?_eq_getElem h2)⟩
theorem at_last {ns : List Int} (h : 0 < ns.length) : ∃ x, atI (ns.map V.int) (-1) = some (.int x) := by
  have e : ns = ns.dropLast ++ [ns.getLast (by intro q; rw [q] at h; cases h)] := (List.dropLast_concat_getLast _).symm
  rw [e, List.map_append]
  exact ⟨_, atI_last _ _⟩
theorem pick_sign {z : Str} {d : Int} (h0 : 0 ≤ d) (h1 : d < (z.length : Int)) : ∃ c, c ∈ z.cps.toList ∧ atI z.cps.toList d = some c :=
  pick_nat h0 (by simpa [Str.length] using h1)
theorem len_app (a b : Str) : (a ++ b).length = a.length + b.length := PySem.Str.length_append a b
/-- what a call behind which only the draws' state has changed hands on -/
def RDraw (K : PySem.W.Frag) (st sc : Addr) (ns : List Int) (H : Hp) (G : Hp → Prop) : Prop := Dr K st sc ns H ∧ ∀ H', Kp st H H' → Dr K st sc ns H' → G H'
theorem Dr.mut {K : PySem.W.Frag} {st sc p : Addr} {ns : List Int} {H0 H1 : Hp} {o : HO} (d0 : Dr K st sc ns H0) (d : Dr K st sc ns H1) (hp : H0 p = none) (k : Kp st H0 H1) : Dr K st sc ns (upd H1 p o) := by
  obtain ⟨a, b, h1, h2, h3⟩ := d.s
  exact d0.kp (k.mut hp) ⟨a, b, h1, h2, by rw [upd_ne (d0.ne hp).symm]; exact h3⟩
section
variable {K : PySem.W.Frag} {g : TG} {σ : L2.St} {te : TE} {vs : List Nat} {Q : VK} {Da st sc : Addr} {ns : List Int} {H0 : Hp}
/-- [e for k in range(..)], e with draws -/
theorem lc_dr {lo : Int} {n : Nat} (d0 : Dr K st sc ns H0) (hD : H0 Da = none) (hn : n ≤ 1000000) (Pe : V → Prop)
    (hs : ∀ (i : Nat) (H2 : Hp) (C : VK) (E : Hp → Prop), i < n → Kp st H0 H2 → Dr K st sc ns H2 → (∀ y H3, Kp st H2 H3 → Dr K st sc ns H3 → Pe y → C y H3) →
      g (.int (lo + i)) (wipe σ vs) H2 fun σ2 H2 => wipe σ2 vs = wipe σ vs ∧ tYes σ2 H2 fun b H3 => if b = true then te σ2 H3 C else E H3)
    (hd : ∀ (H : Hp) (xs : List V), Kp st H0 H → Dr K st sc ns H → H Da = some (.lst xs) → xs.length = n → (∀ x ∈ xs, Pe x) → Q (.ref Da) H) : LcB (Itr lo n) g tYes te vs σ Da H0 Q := by
  have nD := d0.ne hD
  refine lc_rng (fun i H2 => Kp st H0 H2 ∧ Dr K st sc ns H2 ∧ ∃ xs : List V, H2 Da = some (.lst xs) ∧ xs.length = i ∧ ∀ x ∈ xs, Pe x) ⟨Kp.new hD, d0.same (same_new hD), [], upd_same, rfl, fun _ hy => by cases hy⟩ (fun i H2 hi p => ?_) (fun H2 p => ?_)
  · obtain ⟨k4, d4, xs, e4, l4, o4⟩ := p
    refine hs i H2 _ _ hi k4 d4 fun y H3 k5 d5 hy => ?_
    refine ⟨xs, k5 _ _ nD e4, Nat.lt_of_le_of_lt (Nat.le_of_lt (by omega : xs.length < 1000001)) (by decide), (k4.trans k5).mut hD, Dr.mut d0 d5 hD (k4.trans k5), xs ++ [y], upd_same, by simp [l4], fun z hz => ?_⟩
    rcases List.mem_append.mp hz with h | h
    · exact o4 z h
    · rw [List.mem_singleton.mp h]; exact hy
  · obtain ⟨k4, d4, xs, e4, l4, o4⟩ := p
    exact hd H2 xs k4 d4 e4 l4 o4
/-- [e for k in range(..)], e a function of k -/
theorem lc_map_rng {lo : Int} {n : Nat} (hD : H0 Da = none) (hn : n ≤ 1000000) (f : Nat → V)
    (hs : ∀ (i : Nat) (H2 : Hp) (C : VK) (E : Hp → Prop), i < n → Same H0 H2 → (∀ H3, Same H2 H3 → C (f i) H3) →
      g (.int (lo + i)) (wipe σ vs) H2 fun σ2 H2 => wipe σ2 vs = wipe σ vs ∧ tYes σ2 H2 fun b H3 => if b = true then te σ2 H3 C else E H3)
    (hd : ∀ (H : Hp), Same H0 H → H Da = some (.lst ((List.range n).map f)) → Q (.ref Da) H) : LcB (Itr lo n) g tYes te vs σ Da H0 Q := by
  refine lc_rng (fun i H2 => Same H0 H2 ∧ H2 Da = some (.lst ((List.range i).map f))) ⟨same_new hD, upd_same⟩ (fun i H2 hi p => ?_) (fun H2 p => hd H2 p.1 p.2)
  obtain ⟨k4, e4⟩ := p
  refine hs i H2 _ _ hi k4 fun H3 k5 => ?_
  refine ⟨_, k5 _ _ e4, Nat.lt_of_le_of_lt (by simp; omega : _ ≤ 1000000) (by decide), Same.mut (k4.trans k5) hD, ?_⟩
  rw [upd_same, List.range_succ, List.map_append]
  rfl
/-- [e for x in xs], a list, e a function of x -/
theorem lc_map_lst {a : Addr} {xs : List V} (hS : SqL K H0 a xs) (hD : H0 Da = none) (hn : xs.length ≤ 1000000) (f : V → V)
    (hs : ∀ (x : V) (H2 : Hp) (C : VK) (E : Hp → Prop), x ∈ xs → Same H0 H2 → (∀ H3, Same H2 H3 → C (f x) H3) →
      g x (wipe σ vs) H2 fun σ2 H2 => wipe σ2 vs = wipe σ vs ∧ tYes σ2 H2 fun b H3 => if b = true then te σ2 H3 C else E H3)
    (hd : ∀ (H : Hp), Same H0 H → H Da = some (.lst (xs.map f)) → Q (.ref Da) H) : LcB (Itl K a) g tYes te vs σ Da H0 Q := by
  refine lc_lst (xs := xs) (fun pre H2 => Same H0 H2 ∧ H2 Da = some (.lst (pre.map f)) ∧ pre.length ≤ xs.length) ⟨same_new hD, upd_same, Nat.zero_le _⟩ (fun pre H2 p => p.1.seq hS) (fun pre x post H2 e p => ?_) (fun H2 p => hd H2 p.1 p.2.1)
  obtain ⟨k4, e4, l4⟩ := p
  refine hs x H2 _ _ (by rw [e]; simp) k4 fun H3 k5 => ?_
  refine ⟨_, k5 _ _ e4, Nat.lt_of_le_of_lt (by simp; omega : _ ≤ 1000000) (by decide), Same.mut (k4.trans k5) hD, ?_, by rw [e]; simp⟩
  rw [upd_same, List.map_append]
  rfl
end
/-- a draw: any number below the size -/
def spDraw (K : PySem.W.Frag) : Sp := sp3 fun a b c H Q => ∃ (st sc : Addr) (ns : List Int) (n : Int), a = .ref st ∧ b = .ref sc ∧ c = .int n ∧ Dr K st sc ns H ∧ 0 < n ∧ n < 2 ^ 60 ∧
  ∀ (d : Int) (H' : Hp), 0 ≤ d → d < n → Kp st H H' → Dr K st sc ns H' → Q (.int d) H'

abbrev FnP (K : PySem.W.Frag) (x : Str) (st : Stmt) (f : Addr) (fd : FuncData) : Prop :=
  FunD K x x (defArgs st) (defBody st) (defScope st) [] [] f fd
end Vf

namespace PySem
open Sem (wp)
theorem meets_enumerate_newTup (l : Addr) (row : Array Value) (ob : Obj) (cap : Nat) :
    Meets (Builtin.«enumerate.__new__» ⟨[.type "enumerate", .ref l], []⟩) (fun _ R s => (s.heap.get? l = some ob ∧ ob.cls = .type "tuple" ∧ ob.data = .seq row cap) ∧
      R (.ok (.ret (.ref (s.heap.push { cls := .type "tuple_iterator", data := .fields #[.ref l, .int 0 0] }).objs.size)))
        { s with heap := (s.heap.push { cls := .type "tuple_iterator", data := .fields #[.ref l, .int 0 0] }).push { cls := .type "enumerate", data := .fields #[.none, .bool false, .ref s.heap.objs.size, rawInt 0, .none, .none] } }) :=
  .of_wp fun prg w A R s h => by
    obtain ⟨hp, g, d, tk, os⟩ := s; obtain ⟨⟨hl9, wc, wd⟩, h⟩ := h
    have hsub := sub_enumerate
    have isT : Heap.IsTuple (Shared.heap ⟨hp, g, d, tk, os⟩) l row := ⟨_, hl9, wc, cap, wd⟩
    have q1 : ∀ {A' : Around} {E : Value → Shared → Prop} {Q : Value → Shared → Prop}, Q (.ref hp.objs.size) ⟨hp.push { cls := .type "tuple_iterator", data := .fields #[.ref l, .int 0 0] }, g, d, tk, os⟩ → wpAny (model prg w) A' (pyIter (.ref l)) Q E ⟨hp, g, d, tk, os⟩ :=
      fun q => wpAny_pyIter_tuple isT q
    wp_walk using q1
    refine wpAny_stack_any fun here => wpAny_pure ?_
    split
    · rename_i cls9 _ _ _ _ _
      cases (cls9 == Value.type "enumerate")
      · wp_walk using q1
        exact ⟨_, rfl, h⟩
      · wp_walk using q1
        exact ⟨_, rfl, h⟩
    · wp_walk using q1
      exact ⟨_, rfl, h⟩
section
variable {prg : Program} {w : World} {A : Around} {E : Value → Shared → Prop} {s : Shared}
/-- the object that enumerate makes, and the turning over a tuple -/
abbrev enOf (it : Addr) : Obj := { data := .fields #[.none, .bool false, .ref it, rawInt 0, .none, .none], cls := .type "enumerate" }
abbrev tiOf (l : Addr) : Obj := { data := .fields #[.ref l, .int 0 0], cls := .type "tuple_iterator" }
theorem call_enumerate_tup {l : Addr} {row : Array Value} {Q : Value → Shared → Prop} (isT : s.heap.IsTuple l row)
    (h : ∀ h', IsEnum h' (s.heap.objs.size + 1) s.heap.objs.size 0 .none → h'.IsTupleIter s.heap.objs.size l 0 → h'.objs.size = s.heap.objs.size + 2 →
      (∀ bb ob, s.heap.get? bb = some ob → h'.get? bb = some ob) → Q (.ref (s.heap.objs.size + 1)) { s with heap := h' }) :
    wpAny (model prg w) A
      (call (.type "enumerate") [.ref l]) Q E s := by
  obtain ⟨ob, hl9, wc, cap, wd⟩ := isT
  refine callType_new F.called_enumerate (by decide) (F.typeCall_enumerate_1 _)
    (F.newCall_enumerate_1 _) (fun it => F.args_object_init_2 it _) F.entry_enumerate_new (meets_enumerate_newTup l row ob cap) ⟨⟨hl9, wc, wd⟩, ?_⟩
  have szz : (s.heap.push (tiOf l)).objs.size = s.heap.objs.size + 1 := Heap.size_push ..
  show _ ∧ _
  rw [szz]
  have qe : IsEnum ((s.heap.push (tiOf l)).push
      (enOf s.heap.objs.size)) (s.heap.objs.size + 1) s.heap.objs.size 0 .none := by
    have := Heap.get?_push_size (s.heap.push (tiOf l))
      (o := enOf s.heap.objs.size) rfl
    rw [szz] at this; exact this
  refine ⟨⟨_, qe, rfl⟩, h _ qe ⟨_, Heap.get?_push_of_some _ (Heap.get?_push_size _ rfl), rfl, rfl⟩ (by rw [Heap.size_push, szz]) fun bb ob x => Heap.get?_push_of_some _ (Heap.get?_push_of_some _ x)⟩
theorem enumT_end {e it t : Addr} {i : Nat} {row : Array Value} {prev : Value} {Q : Option Value → Shared → Prop} (hh : A.handled = none)
    (qe : IsEnum s.heap e it i prev) (qi : s.heap.IsTupleIter it t i) (hl9 : s.heap.IsTuple t row) (ne2 : t ≠ it) (atx : row[i]? = none)
    (hQ : ∀ h', Heap.ExtBut it s.heap h' → Q none { s with heap := h' }) : wpAny (model prg w) A (pyNext (.ref e)) Q E s := by
  have ty1 : s.TypeIs (.ref e) "enumerate" := ⟨_, qe, rfl⟩
  unfold pyNext
  refine wpAny_bind (wpAny_attempt (wpAny_callSpecial?_slot (name := Str.ofString "__next__") ty1 F.slot_enumerate_next
    (wpAny_call_entry F.slot_enumerate_next ty1 F.entry_enumerate_next ?_ (F.args_enumerate_next_1 _))))
  show wpAny (model prg w) A.in1
    (field (.ref e) 2 >>= _) _ _ s
  refine wpAny_bind (wpAny_field qe rfl (x := .ref it) rfl ?_)
  refine wpAny_bind (wpAny_nextOf_tuple_end hh qi hl9 atx fun h' x he' hx' => ?_)
  obtain ⟨ob, wo, wc⟩ := hx'
  refine wpAny_bind (wpAny_isInstance (T := "StopIteration") (b := true) ⟨ob, wo, wc⟩ isSubtype_stop ?_)
  exact wpAny_pure (hQ _ he')
end
end PySem
namespace Vf
open PySem L2 PySem.Spec PyProof.Rows
/-- enumerate(t), t a tuple -/
def IteT (K : PySem.W.Frag) (a : Addr) : It :=
  ⟨fun i H => ∃ (xs : List V) (x : V), SqT K H a xs ∧ xs[i]? = some x, fun i H v H' => ∃ T x, v = .ref T ∧ H T = none ∧ H' = upd H T (.tup [.int (i : Nat), x]) ∧ ∀ xs, SqT K H a xs → xs[i]? = some x, fun i H => ∃ xs : List V, SqT K H a xs ∧ xs.length ≤ i⟩
theorem turn_enumT {P : Program} {w : World} {K : PySem.W.Frag} {elts : List Expr} {kk : Nat} {tpos : Pos} (a e it : Addr) :
    Turn P w K (.Tuple elts kk tpos) (IteT K a) [e, it] e (fun i h => (∃ prev, IsEnum h e it ((i : Nat) : Int) prev) ∧ h.IsTupleIter it a i ∧ e ≠ it) where
  mem := by simp
  obj := fun i h here bb mb => by
    obtain ⟨⟨prev, qe⟩, ⟨ob, wo, wc, wd⟩, _⟩ := here
    have e' : bb = e ∨ bb = it := by simpa using mb
    rcases e' with z | z
    · rw [z]; exact ⟨_, qe, fun v q => nomatch q⟩
    · rw [z]; exact ⟨ob, wo, fun v q => by rw [wd] at q; cases q⟩
  keep := fun i h h' here k => let ⟨⟨prev, qe⟩, hi9, qn⟩ := here; ⟨⟨prev, k e (by simp) _ qe⟩, hi9.at fun ob q => k it (by simp) ob q, qn⟩
  item := by
    intro X hP hw hK wc i pins s σ H E I fp here got
    subst hP hw hK
    obtain ⟨⟨prev, qe⟩, qi, qn⟩ := here
    obtain ⟨xs, x, wq, atx⟩ := got
    obtain ⟨cells, rds, p, szz⟩ := I.tuple wq
    obtain ⟨u, mu, rdu⟩ := rds.get atx
    have le1 : e < s.heap.objs.size := Heap.lt_size qe
    have le2 : it < s.heap.objs.size := by obtain ⟨_, q, _⟩ := qi; exact Heap.lt_size q
    have ne1 : a ≠ e := by
      intro z
      obtain ⟨ob, wo, hc2, _⟩ := p
      rw [z, qe] at wo
      cases wo
      injection hc2 with q
      exact absurd q (by decide)
    have ne2 : a ≠ it := by
      intro z
      obtain ⟨ob, wo, hc2, _⟩ := p
      obtain ⟨o2, ho2, hc3, _⟩ := qi
      rw [z, ho2] at wo
      cases wo
      rw [hc3] at hc2
      injection hc2 with q
      exact absurd q (by decide)
    have hlt : i < cells.toArray.size := by
      have := (List.getElem?_eq_some_iff.mp mu).1
      simpa using this
    refine wpAny_pyNext_enum_itemD (Draws.tuple (A := X.A.in1) (show X.A.in1.handled = none from I.ok.hd wc) it a ne2 cells.toArray) qe ⟨qi, p⟩ hlt qn (by simp [qn, Ne.symm ne1]) fun x' h' tk hP wo hst' ty1 hsz keep1 => ?_
    have ex : x' = u := by
      have q1 : cells[i]? = some x' := by simpa using hP
      exact Option.some.inj (q1.symm.trans mu)
    subst ex
    refine ⟨_, rfl, wpAny_letOwnedTupleGo_enum (s := { s with heap := h', toks := tk + 1 }) wo fun h'' he' only1 => ?_⟩
    have ty2 : h''.get? s.heap.objs.size = some { cls := .type "tuple", data := .seq #[.int i tk, x'] } := (only1.2 _ (Nat.ne_of_gt le1)).trans ty1
    have fresh1 : ObjOk X.prog X.w (upd H s.heap.objs.size (.tup [.int (i : Nat), x])) h'' s.heap.objs.size (.tup [.int (i : Nat), x]) :=
      ⟨by show 2 ≤ sizeLine; decide, [.int i tk, x'], .cons ⟨_, rfl⟩ (.cons rdu .nil), ⟨_, ty2, rfl, _, rfl⟩⟩
    have J1 : Inv X pins σ (upd H s.heap.objs.size (.tup [.int (i : Nat), x])) { s with heap := h'', toks := tk + 1 } :=
      I.turnedNew (ch := [e, it]) (fun bb ob mb q => (only1.2 bb (fun z => mb (by simp [z]))).trans (keep1 bb ob (fun z => mb (by simp [z])) (fun z => mb (by simp [z])) q)) fp (Nat.le_refl _) fresh1
    refine ⟨.ref s.heap.objs.size, _, J1, rfl, ⟨_, x, rfl, I.hok.fresh (Nat.le_refl _), rfl, fun ys hy => by rw [I.tuple_inj hy wq]; exact atx⟩, ⟨⟨x', ?_⟩, hst'.1.at fun ob q => (only1.2 it (Ne.symm qn)).trans q, qn⟩, fun bb mb => ?_⟩
    · have up1 : ((i + 1 : Nat) : Int) = (i : Int) + 1 := by
        omega
      rw [up1]; exact he'
    · have below : bb < s.heap.objs.size := by
        have two : bb = e ∨ bb = it := by simpa using mb
        rcases two with rfl | rfl
        · exact le1
        · exact le2
      rw [upd_ne (Nat.ne_of_lt below)]
      exact (fp bb mb).1
  done := by
    intro X hP hw hK wc i pins s σ H E I fp here got
    subst hP hw hK
    obtain ⟨⟨prev, qe⟩, qi, qn⟩ := here
    obtain ⟨xs, wq, atx⟩ := got
    obtain ⟨cells, rds, p, szz⟩ := I.tuple wq
    obtain ⟨f0, f1, f2, f3, f4, f5⟩ := fp it (by simp)
    have hl := rds.length
    have ne2 : a ≠ it := by
      intro z
      obtain ⟨ob, wo, hc2, _⟩ := p
      obtain ⟨o2, ho2, hc3, _⟩ := qi
      rw [z, ho2] at wo
      cases wo
      rw [hc3] at hc2
      injection hc2 with q
      exact absurd q (by decide)
    refine enumT_end (I.ok.hd wc) qe qi p ne2 (by simp; omega) fun h' eb => ⟨rfl, I.turned (t' := s.toks) (fun bb ob mb q => eb bb ob mb q) f0 f1 f3 f4 f5⟩
  self := fun A i s Q E here h => let ⟨⟨_, qe⟩, _⟩ := here; wpAny_pyIter_enum qe h
def iEnumT (K : PySem.W.Frag) (ta : TA) : TI := fun σ H R => ta σ H fun vs H1 => ∃ a xs, vs = [.ref a] ∧ SqT K H1 a xs ∧ R (IteT K a) H1
theorem pi_enumT {X : Cx} {e : Expr} {ta : TA} {p pos tpos : Pos} {elts : List Expr} {kk : Nat} (got : Gl X "enumerate") (hm : X.mg "enumerate" = none) (ha : PA X [e] ta) (hs : starEach [e] X.env = [(false, eval e X.env)] := by rfl) :
    PI X (.Tuple elts kk tpos) (.Call (.Name "enumerate" p) [e] [] pos) (iEnumT X.K ta) := by
  constructor
  intro pins s σ H R I h
  refine Call_ (ld_blt I got hm boot_enumerate (PyProof.Rows.callWith_type1 (thn (ha.run pos pins s σ H _ I h) fun us s1 ⟨vs, H1, J1, r1, q1⟩ => ?_) hs rfl))
  obtain ⟨a, xs, ex, wq, q⟩ := q1
  subst ex
  cases r1 with
  | cons r rr =>
    cases rr
    cases r
    obtain ⟨cells, rds, p', szz⟩ := J1.tuple wq
    refine call_enumerate_tup p' fun h' qe qi hsz keep1 => wpAny_pyIter_enum qe ?_
    have J2 : Inv X pins σ H1 { s1 with heap := h' } := J1.kept (t' := s1.toks) keep1
    refine ⟨s1.heap.objs.size + 1, [s1.heap.objs.size + 1, s1.heap.objs.size], _, _, H1, rfl, J2, turn_enumT a (s1.heap.objs.size + 1) s1.heap.objs.size, ⟨⟨.none, qe⟩, qi, Nat.succ_ne_self _⟩, fun bb mb => ?_, q⟩
    have e' : bb = s1.heap.objs.size + 1 ∨ bb = s1.heap.objs.size := by simpa using mb
    have above : bb ≥ s1.heap.objs.size := by
      rcases e' with w9 | w9 <;> rw [w9]
      · exact Nat.le_succ _
      · exact Nat.le.refl
    exact J1.fpOk above (J1.hok.fresh above)
/-- enumerate of a list or of a tuple -/
theorem pi_or {X : Cx} {tg l : Expr} {w1 w2 : TI} (h1 : PI X tg l w1) (h2 : PI X tg l w2) : PI X tg l (fun σ H R => w1 σ H R ∨ w2 σ H R) := ⟨fun pins s σ H R I h => by
  rcases h with h | h
  · exact h1.run pins s σ H R I h
  · exact h2.run pins s σ H R I h⟩
end Vf

namespace Vf
open PySem L2 PySem.Spec PyProof.Rows
/-! ### rules with the written part named (inside a comprehension nothing may lean on its block) -/
section
variable {X : Cx} (K : PySem.W.Frag) {pos : Pos}
theorem ixL (hK : X.K = K := by rfl) : IxR X (rIxL K) := hK ▸ ix_list
theorem ixT (hK : X.K = K := by rfl) : IxR X (rIxT K) := hK ▸ ix_tup
theorem slL (hK : X.K = K := by rfl) : SlR X (rSlL K) := hK ▸ sl_list
theorem slT (hK : X.K = K := by rfl) : SlR X (rSlA K) := hK ▸ sl_tupA
theorem eqDK (hu : X.A.units + 64 < cLine) (hK : X.K = K := by rfl) : OpR X (compareOp .Eq) (rEqD K) := hK ▸ op_eqD hu
theorem neDK (hu : X.A.units + 64 < cLine) (hK : X.K = K := by rfl) : OpR X (compareOp .NotEq) (rNeD K) := hK ▸ op_neD hu
theorem inSK (hK : X.K = K := by rfl) : OpR X (compareOp .In) (rIn K false) := hK ▸ op_in_seq
theorem niSK (hK : X.K = K := by rfl) : OpR X (compareOp .NotIn) (rIn K true) := hK ▸ op_notIn_seq
theorem lenSK (hK : X.K = K := by rfl) : CallR X (.builtin "len") (fun xs H Q => ∃ p ys, xs = [.ref p] ∧ (SqL K H p ys ∨ SqT K H p ys) ∧ Q (.int (ys.length : Nat)) H) := hK ▸ call_len_seq
theorem lstOK (hK : X.K = K := by rfl) : CallR X (.type "list") (fun xs H Q => ∃ p ys, xs = [.ref p] ∧ (SqL K H p ys ∨ SqT K H p ys) ∧ ∀ l, H l = none → Q (.ref l) (upd H l (.lst ys))) := hK ▸ call_list_of
theorem isiK (hK : X.K = K := by rfl) : CallR X (.builtin "isinstance") (rIsi K) := hK ▸ call_isi
theorem pe_fldK {e : Expr} {f : Str} {ta : TE} (ha : PE X e ta) (hb : attributeBase e f X.env (eval e X.env) = eval e X.env := by rfl) (hK : X.K = K := by rfl) : PE X (.Attribute e f pos) (tFld K ta f) := hK ▸ pe_fld ha hb
theorem pg_tupK {es : List Expr} {k : Nat} {t : TGs} {n : Nat} (hc : X.calm = true) (h : PGs X es t)
    (hn : (assignEach es X.env).length = n := by rfl) (hst : (assignEach es X.env).findIdx? (·.1) = none := by rfl) (hK : X.K = K := by rfl) : PG X (.Tuple es k pos) (gTup K n t) := hK ▸ pg_tup hc h hn hst
end
/-! ### readings of these -/
section
variable {σ : L2.St} {H : Hp} {K : PySem.W.Frag} {ta tb : TE} {as : TA}
theorem e_iRevR {tr : L2.St → Hp → (Int → Int → Hp → Prop) → Prop} {R : It → Hp → Prop} (q : tr σ H fun a b H1 => -(2 ^ 62) ≤ a ∧ a < 2 ^ 62 ∧ -(2 ^ 62) ≤ b ∧ b < 2 ^ 62 ∧ R (Itc (a + (((b - a).toNat : Nat) : Int) - 1) (-1) (b - a).toNat) H1) : iRevR tr σ H R := q
theorem e_rg1 {Q : Int → Int → Hp → Prop} (q : ta σ H fun x H1 => ∃ n, x = .int n ∧ Q 0 n H1) : tRg1 ta σ H Q := q
theorem e_rg2 {Q : Int → Int → Hp → Prop} (q : ta σ H fun x H1 => tb σ H1 fun y H2 => ∃ i j, x = .int i ∧ y = .int j ∧ Q i j H2) : tRg2 ta tb σ H Q := q
theorem e_iEnum {R : It → Hp → Prop} (q : as σ H fun vs H1 => ∃ a xs, vs = [.ref a] ∧ SqL K H1 a xs ∧ R (Ite K a) H1) : iEnum K as σ H R := q
theorem e_iEnumT {R : It → Hp → Prop} (q : as σ H fun vs H1 => ∃ a xs, vs = [.ref a] ∧ SqT K H1 a xs ∧ R (IteT K a) H1) : iEnumT K as σ H R := q
theorem e_iRng3 {R : It → Hp → Prop} (q : as σ H fun vs H1 => ∃ (i j c : Int) (n : Nat), vs = [.int i, .int j, .int c] ∧ RgC i j c n ∧ R (Itc i c n) H1) : iRng3 as σ H R := q
theorem e_slL {Q : VK} {p : Addr} {xs : List V} {lo hi : Option Int} (h : SqL K H p xs) (q : ∀ r, H r = none → Q (.ref r) (upd H r (.lst (cutV xs lo hi)))) : rSlL K (.ref p) lo hi H Q := ⟨p, xs, rfl, h, q⟩
theorem e_app {Q : VK} {l : Addr} {xs : List V} {y : V} (h : H l = some (.lst xs)) (hz : xs.length < sizeLine) (q : Q .non (upd H l (.lst (xs ++ [y])))) : rAppend (.ref l) [y] H Q := ⟨l, xs, y, rfl, rfl, h, hz, q⟩
theorem e_ext {Q : VK} {l b : Addr} {xs zs : List V} (h : H l = some (.lst xs)) (hb : H b = some (.lst zs)) (hz : xs.length + zs.length ≤ sizeLine) (q : Q .non (upd H l (.lst (xs ++ zs)))) : rExtend (.ref l) [.ref b] H Q := ⟨l, b, xs, zs, rfl, rfl, h, hb, hz, q⟩
end
/-! ### rows of ints as data -/
abbrev Di (l : List Int) : List PyData := l.map PyData.int
theorem dpAll_ints {K : PySem.W.Frag} {H : Hp} : ∀ xs : List Int, DpAll K H (xs.map V.int) (Di xs)
  | [] => .nil
  | x :: r => .cons (.int x) (dpAll_ints r)
theorem eqvAll_ints : ∀ xs ys : List Int, PyData.eqvAll (Di xs) (Di ys) = decide (xs = ys)
  | [], [] => by
      simp [PyData.eqvAll]
  | [], _ :: _ => by
      simp [PyData.eqvAll]
  | _ :: _, [] => by
      simp [PyData.eqvAll]
  | x :: xs, y :: ys => by
    have ih := eqvAll_ints xs ys
    show (PyData.eqv (.int x) (.int y) && PyData.eqvAll (Di xs) (Di ys)) = _
    rw [ih]
    show ((x == y) && decide (xs = ys)) = decide (x :: xs = y :: ys)
    by_cases h : x = y
    · subst h; simp
    · simp [h]
theorem canAll_ints : ∀ xs : List Int, PyData.canLayAll0 (Di xs) = true
  | [] => rfl
  | x :: r => by
    show (PyData.canLay0 (.int x) && PyData.canLayAll0 (Di r)) = true
    rw [canAll_ints r]; rfl
theorem depthAll_ints : ∀ xs : List Int, PyData.depthAll (Di xs) = 0
  | [] => rfl
  | x :: r => by
    show max 0 (PyData.depthAll (Di r)) = 0
    rw [depthAll_ints r]; rfl
theorem shaped_list {ds : List PyData} (h1 : PyData.canLayAll0 ds = true) (h2 : PyData.depthAll ds ≤ 60) : SeqAt.shaped (.list ds) = true := by
  unfold SeqAt.shaped
  rw [show PyData.canLay0 (.list ds) = PyData.canLayAll0 ds from rfl, h1, show PyData.depth (.list ds) = PyData.depthAll ds + 1 from rfl]
  simp
  omega
theorem shaped_tuple {ds : List PyData} (h1 : PyData.canLayAll0 ds = true) (h2 : PyData.depthAll ds ≤ 60) : SeqAt.shaped (.tuple ds) = true := by
  unfold SeqAt.shaped
  rw [show PyData.canLay0 (.tuple ds) = PyData.canLayAll0 ds from rfl, h1, show PyData.depth (.tuple ds) = PyData.depthAll ds + 1 from rfl]
  simp
  omega
theorem shaped_li (xs : List Int) : SeqAt.shaped (.list (Di xs)) = true := shaped_list (canAll_ints xs) (by rw [depthAll_ints]; decide)
theorem shaped_ti (xs : List Int) : SeqAt.shaped (.tuple (Di xs)) = true := shaped_tuple (canAll_ints xs) (by rw [depthAll_ints]; decide)
section
variable {K : PySem.W.Frag} {H : Hp} {Q : VK} {a b : Addr} {xs ys : List Int}
theorem e_eqLL (h1 : SqL K H a (xs.map V.int)) (h2 : SqL K H b (ys.map V.int)) (q : Q (.bl (decide (xs = ys))) H) : rEqD K (.ref a) (.ref b) H Q :=
  ⟨_, _, .lst h1 (dpAll_ints xs), .lst h2 (dpAll_ints ys), shaped_li xs, shaped_li ys, by rw [show PyData.eqv (.list (Di xs)) (.list (Di ys)) = PyData.eqvAll (Di xs) (Di ys) from rfl, eqvAll_ints]; exact q⟩
theorem e_neLL (h1 : SqL K H a (xs.map V.int)) (h2 : SqL K H b (ys.map V.int)) (q : Q (.bl (!decide (xs = ys))) H) : rNeD K (.ref a) (.ref b) H Q :=
  ⟨_, _, .lst h1 (dpAll_ints xs), .lst h2 (dpAll_ints ys), shaped_li xs, shaped_li ys, by rw [show PyData.eqv (.list (Di xs)) (.list (Di ys)) = PyData.eqvAll (Di xs) (Di ys) from rfl, eqvAll_ints]; exact q⟩
theorem e_eqTT (h1 : SqT K H a (xs.map V.int)) (h2 : SqT K H b (ys.map V.int)) (q : Q (.bl (decide (xs = ys))) H) : rEqD K (.ref a) (.ref b) H Q :=
  ⟨_, _, .tup h1 (dpAll_ints xs), .tup h2 (dpAll_ints ys), shaped_ti xs, shaped_ti ys, by rw [show PyData.eqv (.tuple (Di xs)) (.tuple (Di ys)) = PyData.eqvAll (Di xs) (Di ys) from rfl, eqvAll_ints]; exact q⟩
theorem e_neTT (h1 : SqT K H a (xs.map V.int)) (h2 : SqT K H b (ys.map V.int)) (q : Q (.bl (!decide (xs = ys))) H) : rNeD K (.ref a) (.ref b) H Q :=
  ⟨_, _, .tup h1 (dpAll_ints xs), .tup h2 (dpAll_ints ys), shaped_ti xs, shaped_ti ys, by rw [show PyData.eqv (.tuple (Di xs)) (.tuple (Di ys)) = PyData.eqvAll (Di xs) (Di ys) from rfl, eqvAll_ints]; exact q⟩
end
/-! ### the order of alike data -/
def rLtD (K : PySem.W.Frag) : R2 := fun x y H Q => ∃ d e, Dp K H x d ∧ Dp K H y e ∧ PySem.W.alike d e = true ∧ d ≠ .none ∧ d.depth ≤ 60 ∧ Q (.bl (PySem.W.dataLt d e)) H
def rGtD (K : PySem.W.Frag) : R2 := fun x y H Q => ∃ d e, Dp K H x d ∧ Dp K H y e ∧ PySem.W.alike d e = true ∧ d ≠ .none ∧ d.depth ≤ 60 ∧ Q (.bl (PySem.W.dataLt e d)) H
theorem op_ltD {X : Cx} (hu : X.A.units + 64 < cLine) : OpR X (compareOp .Lt) (rLtD X.K) := by
  intro pins s σ H x y v u C I rx ry hq
  obtain ⟨d, e, hd, he, sd, se, hp, q⟩ := hq
  obtain ⟨toks1, r1⟩ := Dp.reads I d x v hd rx
  obtain ⟨toks2, r2⟩ := Dp.reads I e y u he ry
  exact PySem.W.lt_data r1 r2 sd se (by have := Nat.min_le_left d.depth e.depth; omega) ⟨.bl _, H, I, rfl, q⟩
theorem op_gtD {X : Cx} (hu : X.A.units + 64 < cLine) : OpR X (compareOp .Gt) (rGtD X.K) := by
  intro pins s σ H x y v u C I rx ry hq
  obtain ⟨d, e, hd, he, sd, se, hp, q⟩ := hq
  obtain ⟨toks1, r1⟩ := Dp.reads I d x v hd rx
  obtain ⟨toks2, r2⟩ := Dp.reads I e y u he ry
  exact PySem.W.gt_data r1 r2 sd se (by have := Nat.min_le_left d.depth e.depth; omega) ⟨.bl _, H, I, rfl, q⟩
theorem alikeAll_ints : ∀ xs ys : List Int, PySem.W.alikeAll (Di xs) (Di ys) = true
  | [], _ => by simp [PySem.W.alikeAll]
  | _ :: _, [] => by simp [PySem.W.alikeAll]
  | x :: xs, y :: ys => by
    show (PySem.W.alike (.int x) (.int y) && PySem.W.alikeAll (Di xs) (Di ys)) = true
    rw [alikeAll_ints xs ys]; rfl
theorem lt_ints : ∀ xs ys : List Int, PyProof.Rows.lexLt PyProof.Rows.itemOrd (PySem.W.keyToksAll (Di xs)) (PySem.W.keyToksAll (Di ys)) = HT.lexLt xs ys
  | [], [] => by decide
  | [], y :: ys => by
    show PyProof.Rows.lexLt PyProof.Rows.itemOrd [.inl 0] (.inl 1 :: _) = true
    rw [PySem.W.lex_atom (by decide)]
    decide
  | x :: xs, [] => by
    show PyProof.Rows.lexLt PyProof.Rows.itemOrd (.inl 1 :: _) [.inl 0] = false
    rw [PySem.W.lex_atom (by decide)]
    decide
  | x :: xs, y :: ys => by
    have ih := lt_ints xs ys
    show _ = if x = y then HT.lexLt xs ys else decide (x < y)
    by_cases h : x = y
    · subst h
      rw [if_pos rfl, ← ih]
      exact PySem.W.dataLt_all_yes (x := .int x) (y := .int x) rfl (by simp [PyData.eqv])
    · rw [if_neg h, ← PySem.W.dataLt_int x y]
      exact PySem.W.dataLt_all_no (x := .int x) (y := .int y) rfl (by simpa [PyData.eqv] using h)
theorem e_ltLL {K : PySem.W.Frag} {H : Hp} {Q : VK} {a b : Addr} {xs ys : List Int} (h1 : SqL K H a (xs.map V.int)) (h2 : SqL K H b (ys.map V.int)) (q : Q (.bl (HT.lexLt xs ys)) H) : rLtD K (.ref a) (.ref b) H Q :=
  ⟨_, _, .lst h1 (dpAll_ints xs), .lst h2 (dpAll_ints ys), alikeAll_ints xs ys, by simp, by show PyData.depthAll (Di xs) + 1 ≤ 60; rw [depthAll_ints]; decide, by
    rw [PySem.W.dataLt_list, lt_ints]; exact q⟩
/-! ### loops over rows of ints -/
theorem at_split {ns : List Int} {i : Nat} {x : V} (hx : (ns.map V.int)[i]? = some x) : ∃ y, x = .int y ∧ ns = ns.take i ++ y :: ns.drop (i + 1) ∧ ns.take (i + 1) = ns.take i ++ [y] := by
  rw [List.getElem?_map] at hx
  cases e : ns[i]? with
  | none => rw [e] at hx; cases hx
  | some y =>
    rw [e] at hx
    have e2 := (List.getElem?_eq_some_iff.mp e).2
    refine ⟨y, (Option.some.inj hx).symm, ?_, by rw [List.take_add_one, e]; rfl⟩
    rw [← e2, List.getElem_cons_drop, List.take_append_drop]
section
variable {K : PySem.W.Frag} {g : TG} {t : TS} {D : Ends} {σ : L2.St} {H : Hp} {tt : TT} {te : TE} {vs : List Nat} {Q : VK} {Da a : Addr} {ns : List Int}
theorem for_ints (Pv : List Int → L2.St → Hp → Prop) (h0 : Pv [] σ H) (hl : ∀ pre σ H, Pv pre σ H → SqL K H a (ns.map V.int))
    (hs : ∀ (pre : List Int) (x : Int) (post : List Int) σ H, ns = pre ++ x :: post → Pv pre σ H → g (.int x) σ H fun σ2 H2 => t { D with nx := Pv (pre ++ [x]), ct := Pv (pre ++ [x]), bk := D.nx } σ2 H2)
    (hd : ∀ σ H, Pv ns σ H → D.nx σ H) : ForB (Itl K a) g t D σ H := by
  refine for_list (xs := ns.map V.int) (fun i => Pv (ns.take i)) (by simpa using h0) (fun i σ H _ p => hl _ σ H p) (fun i x σ H hx p => ?_) (fun σ H p => ?_)
  · obtain ⟨y, rfl, e1, e2⟩ := at_split hx
    rw [e2]
    exact hs _ y _ σ H e1 p
  · rw [List.length_map, List.take_length] at p
    exact hd σ H p
theorem for_intsT (Pv : List Int → L2.St → Hp → Prop) (h0 : Pv [] σ H) (hl : ∀ pre σ H, Pv pre σ H → SqT K H a (ns.map V.int))
    (hs : ∀ (pre : List Int) (x : Int) (post : List Int) σ H, ns = pre ++ x :: post → Pv pre σ H → g (.int x) σ H fun σ2 H2 => t { D with nx := Pv (pre ++ [x]), ct := Pv (pre ++ [x]), bk := D.nx } σ2 H2)
    (hd : ∀ σ H, Pv ns σ H → D.nx σ H) : ForB (Itt K a) g t D σ H := by
  refine for_tup (xs := ns.map V.int) (fun i => Pv (ns.take i)) (by simpa using h0) (fun i σ H _ p => hl _ σ H p) (fun i x σ H hx p => ?_) (fun σ H p => ?_)
  · obtain ⟨y, rfl, e1, e2⟩ := at_split hx
    rw [e2]
    exact hs _ y _ σ H e1 p
  · rw [List.length_map, List.take_length] at p
    exact hd σ H p
theorem walk_enumT {xs : List V} : Walk (IteT K a) xs.length (fun H => SqT K H a xs) (YPair (fun i => some (.int (i : Nat))) (fun i => xs[i]?)) := by
  refine ⟨fun i _ hi q => ⟨xs, xs[i], q, by simp [hi]⟩,
    fun _ q => ⟨xs, q, Nat.le_refl _⟩, fun i H v H' _ q y => ?_⟩
  obtain ⟨T, x, g1, g2, g3, g4⟩ := y
  exact ⟨T, .int (i : Nat), x, g1, g2, g3, rfl, g4 xs q⟩
theorem for_enumI (Pv : List Int → L2.St → Hp → Prop) (h0 : Pv [] σ H) (hl : ∀ pre σ H, Pv pre σ H → SqL K H a (ns.map V.int))
    (hs : ∀ (pre : List Int) (x : Int) (post : List Int) (T : Addr) σ H, ns = pre ++ x :: post → Pv pre σ H → H T = none → g (.ref T) σ (upd H T (.tup [.int (pre.length : Nat), .int x])) fun σ2 H2 => t { D with nx := Pv (pre ++ [x]), ct := Pv (pre ++ [x]), bk := D.nx } σ2 H2)
    (hd : ∀ σ H, Pv ns σ H → D.nx σ H) : ForB (Ite K a) g t D σ H := by
  refine for_it (walk_enum (xs := ns.map V.int)) (fun i => Pv (ns.take i)) (by simpa using h0) (fun i σ H _ p => hl _ σ H p) (fun i x σ H H' hi p y => ?_) (fun σ H p => ?_)
  · obtain ⟨T, u, v, rfl, hT, rfl, hu, hv⟩ := y
    obtain ⟨z, rfl, e1, e2⟩ := at_split hv
    cases (Option.some.inj hu)
    rw [e2]
    have hl : (ns.take i).length = i := by rw [List.length_map] at hi; rw [List.length_take]; omega
    have q := hs (ns.take i) z _ T σ H e1 p hT
    rw [hl] at q
    exact q
  · rw [List.length_map, List.take_length] at p
    exact hd σ H p
theorem for_enumIT (Pv : List Int → L2.St → Hp → Prop) (h0 : Pv [] σ H) (hl : ∀ pre σ H, Pv pre σ H → SqT K H a (ns.map V.int))
    (hs : ∀ (pre : List Int) (x : Int) (post : List Int) (T : Addr) σ H, ns = pre ++ x :: post → Pv pre σ H → H T = none → g (.ref T) σ (upd H T (.tup [.int (pre.length : Nat), .int x])) fun σ2 H2 => t { D with nx := Pv (pre ++ [x]), ct := Pv (pre ++ [x]), bk := D.nx } σ2 H2)
    (hd : ∀ σ H, Pv ns σ H → D.nx σ H) : ForB (IteT K a) g t D σ H := by
  refine for_it (walk_enumT (xs := ns.map V.int)) (fun i => Pv (ns.take i)) (by simpa using h0) (fun i σ H _ p => hl _ σ H p) (fun i x σ H H' hi p y => ?_) (fun σ H p => ?_)
  · obtain ⟨T, u, v, rfl, hT, rfl, hu, hv⟩ := y
    obtain ⟨z, rfl, e1, e2⟩ := at_split hv
    cases (Option.some.inj hu)
    rw [e2]
    have hl : (ns.take i).length = i := by rw [List.length_map] at hi; rw [List.length_take]; omega
    have q := hs (ns.take i) z _ T σ H e1 p hT
    rw [hl] at q
    exact q
  · rw [List.length_map, List.take_length] at p
    exact hd σ H p
/-- [e for k in range(a, b, c)], e a function of the turn -/
theorem lc_map_rngC {lo c : Int} {n : Nat} {H0 : Hp} (hD : H0 Da = none) (hn : n ≤ 1000000) (f : Nat → V)
    (hs : ∀ (i : Nat) (H2 : Hp) (C : VK) (E : Hp → Prop), i < n → Same H0 H2 → (∀ H3, Same H2 H3 → C (f i) H3) →
      g (.int (lo + (i : Nat) * c)) (wipe σ vs) H2 fun σ2 H2 => wipe σ2 vs = wipe σ vs ∧ tYes σ2 H2 fun b H3 => if b = true then te σ2 H3 C else E H3)
    (hd : ∀ (H : Hp), Same H0 H → H Da = some (.lst ((List.range n).map f)) → Q (.ref Da) H) : LcB (Itc lo c n) g tYes te vs σ Da H0 Q := by
  refine lc_it walk_rangeC (fun i H2 => Same H0 H2 ∧ H2 Da = some (.lst ((List.range i).map f))) ⟨same_new hD, upd_same⟩ (fun _ _ _ _ => trivial) (fun i x H2 H' hi p y => ?_) (fun H2 p => hd H2 p.1 p.2)
  obtain ⟨rfl, rfl⟩ := y
  obtain ⟨k4, e4⟩ := p
  refine hs i _ _ _ hi k4 fun H3 k5 => ?_
  refine ⟨_, k5 _ _ e4, Nat.lt_of_le_of_lt (by simp; omega : _ ≤ 1000000) (by decide), Same.mut (k4.trans k5) hD, ?_⟩
  rw [upd_same, List.range_succ, List.map_append]
  rfl
end
theorem i_bneself {b : Bool} {A B : Prop} (h : B) : if (b != b) = true then A else B := by
  have e : (b != b) = false := by cases b <;> rfl
  rw [e]; exact i_F h
theorem i_beself {b : Bool} {A B : Prop} (h : A) : if (b == b) = true then A else B := by
  rw [beq_self_eq_true]; exact i_T h
/-! ### a list or a tuple -/
/-- a row of values, a list's or a tuple's -/
abbrev SqE (K : PySem.W.Frag) (H : Hp) (p : Addr) (xs : List V) : Prop := SqL K H p xs ∨ SqT K H p xs
theorem Same.seqE {K : PySem.W.Frag} {H H' : Hp} {a : Addr} {xs : List V} (e : Same H H') (h : SqE K H a xs) : SqE K H' a xs := by
  rcases h with h | h
  · exact .inl (e.seq h)
  · refine .inr ?_
    rcases h with (h | ⟨c9, h⟩) | h
    · exact .inl (.inl (e _ _ h))
    · exact .inl (.inr ⟨c9, e _ _ h⟩)
    · exact .inr h
theorem e_ixE {K : PySem.W.Frag} {H : Hp} {Q : VK} {p : Addr} {xs : List V} {i : Int} {v : V} (h : SqE K H p xs) (ha : atI xs i = some v) (q : Q v H) : rIxL K (.ref p) (.int i) H Q ∨ rIxT K (.ref p) (.int i) H Q := by
  rcases h with h | h
  · exact .inl (e_ixL h ha q)
  · exact .inr (e_ixT h ha q)
/-- a list of the turn's values, over a list -/
theorem lc_map_lstI {K : PySem.W.Frag} {g : TG} {te : TE} {vs : List Nat} {σ : L2.St} {Da a : Addr} {H0 : Hp} {Q : VK} {xs : List V} (hS : SqL K H0 a xs) (hD : H0 Da = none) (hn : xs.length ≤ 1000000) (f : Nat → V)
    (hs : ∀ (i : Nat) (x : V) (H2 : Hp) (C : VK) (E : Hp → Prop), xs[i]? = some x → Same H0 H2 → (∀ H3, Same H2 H3 → C (f i) H3) →
      g x (wipe σ vs) H2 fun σ2 H2 => wipe σ2 vs = wipe σ vs ∧ tYes σ2 H2 fun b H3 => if b = true then te σ2 H3 C else E H3)
    (hd : ∀ (H : Hp), Same H0 H → H Da = some (.lst ((List.range xs.length).map f)) → Q (.ref Da) H) : LcB (Itl K a) g tYes te vs σ Da H0 Q := by
  refine lc_list (xs := xs) (fun i H2 => Same H0 H2 ∧ H2 Da = some (.lst ((List.range i).map f))) ⟨same_new hD, upd_same⟩ (fun i H2 _ p => p.1.seq hS) (fun i x H2 hx p => ?_) (fun H2 p => hd H2 p.1 p.2)
  obtain ⟨k4, e4⟩ := p
  have hi := (List.getElem?_eq_some_iff.mp hx).1
  refine hs i x H2 _ _ hx k4 fun H3 k5 => ?_
  refine ⟨_, k5 _ _ e4, Nat.lt_of_le_of_lt (by rw [List.length_map, List.length_range]; omega : _ ≤ 1000000) (by decide), Same.mut (k4.trans k5) hD, ?_⟩
  rw [upd_same, List.range_succ, List.map_append]
  rfl
end Vf

namespace Vf
open PySem L2 PySem.Spec PyProof.Rows
/-- a plain tuple of pairs: made by tuple(list), or by an update -/
def PlT (H : Hp) (a : Addr) (xs : List V) : Prop := ∃ o : Obj, o.dict = none ∧ H a = some (.frz o (.tup xs))
theorem PlT.seq {K : PySem.W.Frag} {H : Hp} {a : Addr} {xs : List V} (h : PlT H a xs) : SqT K H a xs := by
  obtain ⟨o, _, e⟩ := h
  exact .inl (.inr ⟨o, e⟩)
theorem PlT.same {H H' : Hp} {a : Addr} {xs : List V} (h : PlT H a xs) (e : Same H H') : PlT H' a xs := by
  obtain ⟨o, d, q⟩ := h
  exact ⟨o, d, e _ _ q⟩
theorem uvs_of {X : Cx} {pins : List (Addr × Obj)} {σ : L2.St} {H : Hp} {s : Shared} (I : Inv X pins σ H s) : ∀ {ps : List Addr} {kvs : List (Key × V)}, Paired (fun p kv => SqT X.K H p [kV kv.1, kv.2]) ps kvs →
    ∃ (prs : List (Key × Value)) (uvs : List (Value × Value)), KV kvs prs ∧ prs.length = ps.length ∧ uvs.length = ps.length ∧
      ∀ (j : Nat) (u y : Value), uvs[j]? = some (u, y) → ∃ (b : Addr) (k : Key), ps[j]? = some b ∧ PairAt s.heap b u y ∧ prs[j]? = some (k, y) ∧ keyIs k u = true
  | _, _, .nil => ⟨[], [], .nil, rfl, rfl, fun j u y e => by simp at e⟩
  | _, _, .cons (a := p) (b := kv) h t => by
    obtain ⟨prs, uvs, r, l1, l2, q⟩ := uvs_of I t
    obtain ⟨its, rv, ht, _⟩ := I.tuple h
    obtain ⟨u, y, rfl, ru, ry⟩ := vals2 rv
    refine ⟨(kv.1, y) :: prs, (u, y) :: uvs, .cons ⟨rfl, ry⟩ r, by simp [l1], by simp [l2], fun j u' y' e => ?_⟩
    cases j with
    | zero =>
      cases (Option.some.inj e)
      exact ⟨p, kv.1, rfl, .inl ht, rfl, kV_is (P := X.prog) (w := X.w) ru⟩
    | succ j =>
      obtain ⟨b, k, e1, e2, e3, e4⟩ := q j u' y' (by simpa using e)
      exact ⟨b, k, by simpa using e1, e2, by simpa using e3, e4⟩
theorem refs_of : ∀ {ps : List Addr} {us : List Value}, Vals (ps.map V.ref) us → us = ps.map Value.ref
  | [], _, .nil => rfl
  | p :: ps, _, .cons h t => by
    cases h
    rw [refs_of t]
    rfl
/-- dict(t), t a plain tuple of pairs -/
theorem call_dictPT {X : Cx} (hcalm : X.calm = true) : CallR X (.type "dict") (fun xs H Q => ∃ (a : Addr) (ps : List Addr) (kvs : List (Key × V)), xs = [.ref a] ∧ PlT H a (ps.map V.ref) ∧ Paired (fun p kv => SqT X.K H p [kV kv.1, kv.2]) ps kvs ∧
    ∀ p, H p = none → Q (.ref p) (upd H p (.dK (mergeK [] kvs)))) := by
  intro pins s σ H xs us Q I r q
  obtain ⟨a, ps, kvs, rfl, ⟨o, hd, ea⟩, hp, q⟩ := q
  obtain ⟨u, rfl, rx⟩ := vals1 r
  cases rx
  obtain ⟨ho, hz, its, rv, o2, ho2, hc, n, hdat⟩ := (show ObjOk X.prog X.w H s.heap a (.frz o (.tup (ps.map V.ref))) from I.hok a _ ea)
  rw [ho] at ho2
  cases (Option.some.inj ho2)
  have ei := refs_of rv
  subst ei
  rw [List.length_map] at hz
  obtain ⟨prs, uvs, rel, l1, l2, hq⟩ := uvs_of I hp
  have ok : PlainSeq "tuple" s.heap a (ps.map Value.ref).toArray ∧ PairItems s.heap (ps.map Value.ref).toArray (fun j => ps.getD j 0) uvs := by
    refine ⟨⟨o, n, ho, hc, hd, hdat⟩, by simp [l2], fun j k v hj => ?_⟩
    obtain ⟨b, key, e1, e2, _, _⟩ := hq j k v hj
    have e5 : ps.getD j 0 = b := by rw [List.getD_eq_getElem?_getD, e1]; rfl
    show _ ∧ PairAt s.heap (ps.getD j 0) k v
    rw [e5]
    exact ⟨by simp [e1], e2⟩
  refine PySem.call_dict_pairs (knd := mixKind X.prog X.w) (kvs := prs) (PairArg.tuple a (ps.map Value.ref).toArray (fun j => ps.getD j 0) uvs) (I.ok.hd hcalm) ok ⟨by rw [l1, l2], fun i key v hr => ?_⟩ (by rw [l2]; exact hz) fun h' tk hd' k => ?_
  · obtain ⟨b, k, _, _, e3, e4⟩ := hq i key v hr
    exact ⟨k, e3, e4⟩
  · have hm : (s.heap.objs.size == sysModules) = false := beq_eq_false_iff_ne.mpr (Nat.ne_of_gt I.big)
    have hlen : (mergeK [] kvs).length ≤ sizeLine := by
      have h1 := length_mergeK kvs []
      have h2 := rel.length
      rw [List.length_nil] at h1
      omega
    exact ⟨.ref s.heap.objs.size, upd H s.heap.objs.size (.dK (mergeK [] kvs)), I.laid (t' := tk) (fun b ob e => k b ob (by simp) e) (Nat.le_refl _) (show ObjOk X.prog X.w _ _ _ (.dK (mergeK [] kvs)) from ⟨hlen, hm, merged [] prs, KV.merge rel .nil, hd'⟩), rfl, q _ (I.hok.fresh (Nat.le_refl _))⟩
/-- tuple(l), l a list: a plain tuple -/
theorem call_tupleF {X : Cx} : CallR X (.type "tuple") (fun xs H Q => ∃ p ys, xs = [.ref p] ∧ SqL X.K H p ys ∧ ∀ l H', H l = none → Same H H' → PlT H' l ys → (∀ b, b ≠ l → H' b = H b) → Q (.ref l) H') := by
  intro pins s σ H xs us Q I r q
  obtain ⟨p, ys, rfl, hq, q⟩ := q
  obtain ⟨u, rfl, rx⟩ := vals1 r
  cases rx
  obtain ⟨its, rv, pl, hz⟩ := I.list hq
  have hlen := rv.length
  refine call_tuple_list pl.isList (fun h' kp => ?_) (by simp only [List.size_toArray] <;> omega)
  have J1 : Inv X pins σ H { s with heap := h' } := I.kept (t' := s.toks) kp
  have hfr := J1.hok.fresh (Nat.le_refl _)
  have J2 : Inv X pins σ (upd H h'.objs.size (.frz { cls := .type "tuple", data := .seq its.toArray } (.tup ys))) { s with heap := h'.push { cls := .type "tuple", data := .seq its.toArray } } :=
    J1.laid (t' := s.toks) (fun b ob e => Heap.get?_push_of_some _ e) (Nat.le_refl _) ⟨Heap.get?_push_size _ rfl, hz, its, rv, IsTup.new _ _⟩
  exact ⟨.ref h'.objs.size, _, J2, rfl, q _ _ hfr (same_new hfr) ⟨_, rfl, upd_same⟩ fun b hb => upd_ne hb⟩
theorem tupFK (K : PySem.W.Frag) {X : Cx} (hK : X.K = K := by rfl) : CallR X (.type "tuple") (fun xs H Q => ∃ p ys, xs = [.ref p] ∧ SqL K H p ys ∧ ∀ l H', H l = none → Same H H' → PlT H' l ys → (∀ b, b ≠ l → H' b = H b) → Q (.ref l) H') := hK ▸ call_tupleF
end Vf

namespace PySem
namespace ErrX
open PySem.W PySem.Calls PyProof.Rows PySem.HandSPX
/-! ### the text of __init__ -/
def iA (p1 p2 : Pos) : Arguments := { posonlyargs := [], args := [{ arg := "self", annotation := none, pos := p1 }, { arg := "place", annotation := none, pos := p2 }], vararg := none, kwonlyargs := [], kw_defaults := [], kwarg := none, defaults := [] }
def iB (q1 q2 q3 q4 : Pos) : List Stmt := [.Assign [.Attribute (.Name "self" q1) "place" q2] (.Name "place" q3) q4]
def iS : Scope := { kind := .function, names := [(PySem.Str.ofString "self", .local), (PySem.Str.ofString "place", .local)], isGenerator := false, isCoroutine := false, more := [] }
/-- what the written part says of Low, at C, and of its __init__, at fI -/
structure ErrTxt (K : Frag) (mg : Str → Option Value) (x : Str) (C fI : Addr) : Prop where
  gC : mg x = some (.ref C)
  cls : ∃ nm q N bs bm sn sub ab col dd k0 k1 k2 k3 k5, K.lookup C = some (excClassObj nm q C N bs bm true sn sub ab col dd k0 k1 k2 k3 k5 "ValueError.__new__") ∧ refsVE bm = true
  sa : findIn K (.ref C) "__setattr__" = some (some (.builtin "object.__setattr__"))
  ga : findIn K (.ref C) "__getattribute__" = some (some (.builtin "BaseException.__getattribute__"))
  gg : findIn K (.ref C) "__getattr__" = some none
  noN : findIn K (.ref C) "place" = some none
  iC : findIn K (.ref C) "__init__" = some (some (.ref fI))
  tC : typeIn K (.ref fI) = some (.type "function")
  kC : keepIn K (.ref C) = true
  exC : subIn K (.ref C) (.type "BaseException") = some true
  tyC : typeIn K (.ref C) = some (.type "type")
  hdC : hasDictIn K C = true
  te : exmOne K (.ref C) (.ref C) = some true
  fn : ∃ (oc : Value) (od : Option Addr) (kV doc pm : Value) (an : Option Addr) (cdv ct : Value) (osl : Array (Option Value)) (p1 p2 q1 q2 q3 q4 : Pos),
    K.lookup fI = some ⟨oc, od, .func (fnOf "__init__" "FolderkinError.__init__" (iA p1 p2) (iB q1 q2 q3 q4) iS .none kV doc pm an cdv ct), osl⟩ ∧ codeIn K cdv "FolderkinError.__init__" = true
theorem one_size (v : Value) : [v].length ≤ sizeLine := by
  rw [sizeLine_eq]
  exact (by decide : 1 ≤ 16777216)
theorem kept_but {K : Frag} {h h' : Heap} {x : Addr} (X : K.In h) (hx : K.lookup x = none) (k : ∀ b o, b ≠ x → h.get? b = some o → h'.get? b = some o) : K.In h' := fun a o e =>
  k a o (fun z => by rw [z, hx] at e; cases e) (X a o e)
theorem ldC {M : Model} {s : Shared} {name : Str} {scope : Scope} {L a : Addr} {cd : Value} {m : Str → Option Value} {x : Str} {pos : Pos} {v : Value} {Q : Value → Shared → Prop} {A : Around} {E : Value → Shared → Prop} (hn : s.heap.Ns L m) (hv : m x = some v) (h : Q v s)
    (hk : scope.kind = .function := by rfl) (hl : (envOfC name scope L a cd).kindOf x = some .local := by rfl) (hd : (x == ("__debug__" : Str)) = false := by decide) :
    wpAny M A (eval (.Name x pos) (envOfC name scope L a cd)) Q E s := wpAny_Name (wpAny_loadName_local hk hl hn hv h) hd
/-- what __init__ leaves of a fresh exception at x -/
structure InitEnd (h h' : Heap) (x C dx t1 : Addr) (v : Value) : Prop where
  keep : ∀ b o, b ≠ x → h.get? b = some o → h'.get? b = some o
  obj : h'.get? x = some { cls := .ref C, dict := some dx, data := .fields #[.ref t1, .none, .none, .none, .bool false, .none] }
  dbig : h.objs.size ≤ dx
  dne : dx ≠ x
  ns : h'.Ns1 dx (fun y => if y = "place" then some v else none)
/-- a made Low -/
structure OwnMade (h h' : Heap) (e C d : Addr) (v : Value) : Prop where
  keep : ∀ b o, h.get? b = some o → h'.get? b = some o
  new : h.objs.size ≤ e
  obj : ∃ oe vs, h'.get? e = some oe ∧ oe.cls = .ref C ∧ oe.dict = some d ∧ oe.data = .fields vs ∧ vs[1]? = some .none
  dbig : h.objs.size ≤ d
  dne : d ≠ e
  ns : h'.Ns1 d (fun y => if y = "place" then some v else none)
section
variable {prog : Program} {w : World} {A : Around} {E : Value → Shared → Prop} {R : Result → Shared → Prop} {s : Shared} {K : Frag} {mg : Str → Option Value} {C fI : Addr}
theorem err_init (T : ErrTxt K mg nmx C fI) {x t0 : Addr} {v : Value} (X : K.In s.heap) (hlim : s.heap.NoLimit) (hx : s.heap.get? x = some (excO C t0)) (hnx : K.lookup x = none) (hroom : A.depth < recursionLimit)
    (hq : ∀ h' tk dx, InitEnd s.heap h' x C dx t0 v → R (.ok (.ret .none)) { s with heap := h', toks := tk }) :
    codeAny (model prog w) A (.call (.ref fI) ⟨[.ref x, v], []⟩) R s := by
  obtain ⟨oc, od, kV, doc, pm, an, cdv, ct, osl, p1, p2, q1, q2, q3, q4, ho, hcd⟩ := T.fn
  obtain ⟨nm, q, N, bs, bm, sn, sub, ab, col, dd, k0, k1, k2, k3, k5, hC, hbm⟩ := T.cls
  have hcl : clsIn K C = some { name := nm, bases := bs, mro := .ref C :: bm, ns := N, qualname := q, hasDict := true, slotNames := sn, subclasses := sub, abstract := ab, collection := col, hasDel := false } := by unfold clsIn; rw [hC] <;> rfl
  refine Att.call_fn (binds := [("self", .ref x), ("place", v)]) X hlim ho hcd hroom (BindsTo.of_eq (by first | rfl | with_unfolding_all rfl)) (by first | rfl | decide | with_unfolding_all rfl) (fun s₁ IC => ?_) rfl rfl rfl
  obtain ⟨h₁, tk₁, rfl⟩ := IC.toInCall.same
  have k : ∀ b o, s.heap.get? b = some o → h₁.get? b = some o := IC.toInCall.keep
  have hn := IC.toInCall.ns
  have hxL : s.heap.objs.size ≠ x := Nat.ne_of_gt (Heap.lt_size hx)
  have X₁ : K.In h₁ := X.keeps k
  have hx₁ := k _ _ hx
  -- self.by = by
  show wpAny _ _ (execs _ _) _ _ _
  refine wpAny_execs_cons (plainObj_wpAny_Assign_Attribute ?_)
  refine ldC (v := v) hn (by first | rfl | with_unfolding_all rfl | kernel_rfl) (ldC (v := .ref x) hn (by first | rfl | with_unfolding_all rfl | kernel_rfl) ?_)
  refine set_plain X₁ (ox := excO C t0) (od := none) ⟨hx₁, rfl, rfl, trivial⟩ T.sa ?_
  refine exc_osa X₁ hx₁ hcl (show refsVE (.ref C :: bm) = true from hbm) rfl T.noN (fun h₃ tk₃ dx k₃ dn dne hx₃ hn₃ => ?_)
  show wpAny _ _ (execs _ _) _ _ _
  have z : s.heap.objs.size < h₁.objs.size := hn.lt
  exact wpAny_execs_nil (hq h₃ tk₃ dx ⟨fun b o hb e => k₃ b o hb (k b o e), hx₃, Nat.le_of_lt (Nat.lt_of_lt_of_le z dn), dne, hn₃⟩)
theorem err_made (T : ErrTxt K mg nmx C fI) {v : Value} (X : K.In s.heap) (hlim : s.heap.NoLimit) (hroom : A.depth + 1 < recursionLimit)
    (hq : ∀ h' tk e d, OwnMade s.heap h' e C d v → R (.ok (.ret (.ref e))) { s with heap := h', toks := tk }) :
    codeAny (model prog w) A (.call (.ref C) ⟨[v], []⟩) R s := by
  obtain ⟨nm, q, N, bs, bm, sn, sub, ab, col, dd, k0, k1, k2, k3, k5, hC, hbm⟩ := T.cls
  obtain ⟨hp, g, dr, tk, os⟩ := s
  have k : ∀ b o, hp.get? b = some o → ((hp.push (kdv_tup [v])).push (excO C hp.objs.size)).get? b = some o := fun b o e => Heap.get?_push_of_some _ (Heap.get?_push_of_some _ e)
  have hget : ((hp.push (kdv_tup [v])).push (excO C hp.objs.size)).get? (hp.objs.size + 1) = some (excO C hp.objs.size) := by heap_get
  have hnx : K.lookup (hp.objs.size + 1) = none := by
    cases e : K.lookup (hp.objs.size + 1) with
    | none => rfl
    | some o =>
      have z : hp.get? (hp.objs.size + 1) = some o := X _ _ e
      exact absurd (Nat.lt_of_succ_lt (Heap.lt_size z)) (Nat.lt_irrefl _)
  refine call_own F.excBase_ValueError (fun X => refsVE_contains X bm hbm) (X _ _ hC) (looks_findIn X T.iC) (fun self => bind_fn X self T.tC) (one_size v) ?_
  refine err_init (s := ⟨(hp.push (kdv_tup [v])).push (excO C hp.objs.size), g, dr, tk, os⟩) T (X.keeps k) (hlim.keeps k) hget hnx ?_ fun h' tk' dx ⟨k', hx, dn, dne, hns⟩ => ?_
  · show A.depth + 1 < recursionLimit
    exact hroom
  · have old : ∀ b o, hp.get? b = some o → h'.get? b = some o := fun b o e => k' b o (Nat.ne_of_lt (Nat.lt_succ_of_lt (Heap.lt_size e))) (k b o e)
    have z : hp.objs.size + 1 + 1 ≤ dx := by
      first
        | (simpa only [Heap.size_push] using dn)
        | exact dn
        | (have q := dn; rw [Heap.size_push, Heap.size_push] at q; exact q)
    exact ⟨rfl, hq h' tk' (hp.objs.size + 1) dx ⟨old, Nat.le_succ _, ⟨_, _, hx, rfl, rfl, rfl, rfl⟩, Nat.le_trans (Nat.le_trans (Nat.le_succ _) (Nat.le_succ _)) z, dne, hns⟩⟩
end
end ErrX
end PySem
namespace L2
open PySem PySem.Spec PyProof.Rows
theorem relO_plc {v : V} {v' : Value} (r : RelV v v') (f : Str) : RelO (List.lookup f [(("place" : Str), v)]) (if f = "place" then some v' else none) := by
  by_cases hw : f = "place"
  · subst hw
    rw [if_pos rfl]
    have q : List.lookup ("place" : Str) [(("place" : Str), v)] = some v := by simp [List.lookup]
    rw [q]
    exact r
  · rw [if_neg hw]
    have qw : (f == ("place" : Str)) = false := by simpa using hw
    have q2 : List.lookup f [(("place" : Str), v)] = none := by simp [List.lookup, qw]
    rw [q2]
    trivial
section
variable {X : Cx} {C fI : Addr}
/-- Low(e) -/
def tMkErr (C : Addr) (ta : TA) : St → Hp → XK → Prop := fun σ H Q => ta σ H fun vs H1 => ∃ v, vs = [v] ∧ ∀ d, H1 d = none → Q (.ref C) (some d) (upd H1 d (.xd [(("place" : Str), v)]))
theorem pmk_err {a : Expr} {ta : TA} {p pos : Pos} {k : Nat} (T : PySem.ErrX.ErrTxt X.K X.mg nmx C fI) (hr : Room k X.A) (ha : PA X [a] ta) (hg : Gl X nmx := by rfl)
    (he : starEach (a :: []) X.env = (false, eval a X.env) :: starEach [] X.env := by rfl) (hpl : (backTo pos (starEach [] X.env)).any (·.1) = false := by rfl) (hdb : (nmx == ("__debug__" : Str)) = false := by decide) :
    PMk X (.Call (.Name nmx p) [a] [] pos) (tMkErr C ta) := by
  intro pins s σ H Q I h
  refine wpAny_Call_Name_kw (ld_glob I hg T.gC ?_ hdb)
  refine PySem.W.callWith_K (h₀ := X.base) I.ok.mod.kin T.kC (thn (ha.run pos pins s σ H _ I h) fun us s1 hh => ?_) he hpl
  obtain ⟨vs, H1, I1, r1, v, ev, q1⟩ := hh
  subst ev
  refine ⟨I1.kIn, ?_⟩
  cases r1 with
  | cons rv rn =>
    rename_i v' us'
    cases rn
    show wpAny _ _ (call (.ref C) [v']) _ _ _
    have hlim := I1.nolimit
    obtain ⟨hp, g, dr, tk, os⟩ := s1
    refine wpAny_call (PySem.ErrX.err_made T I1.kIn hlim (by have := hr.dp; omega) fun h' tk' e d M => ?_)
    show MkP X pins σ Q (.ref e) ⟨h', g, dr, tk', os⟩
    obtain ⟨oe, fv, hoe, hc, hd, hdat, h1⟩ := M.obj
    have hns := M.ns
    obtain ⟨G', g1, g2⟩ := restrict h' fun b => decide (b ≠ e)
    have gk : ∀ b, b ≠ e → G'.get? b = h'.get? b := fun b hb => g1 b (decide_eq_true hb)
    have ge : G'.get? e = none := g2 e (by simp)
    have old : ∀ b o, hp.get? b = some o → G'.get? b = some o := fun b o q => (gk b (Nat.ne_of_lt (Nat.lt_of_lt_of_le (Heap.lt_size q) M.new))).trans (M.keep b o q)
    have ob : ObjOk X.prog X.w (upd H1 d (.xd [(("place" : Str), v)])) G' d (.xd [(("place" : Str), v)]) :=
      ⟨_, hns.at (fun o q => (gk d M.dne).trans q), fun f => relO_plc rv f⟩
    have J : Inv X pins σ (upd H1 d (.xd [(("place" : Str), v)])) ⟨G', g, dr, tk', os⟩ := I1.laid (t' := tk') old M.dbig ob
    refine ⟨e, oe, fv, ⟨G', g, dr, tk', os⟩, _, .ref C, some d, rfl, J, fun b o q => ?_, ge, hoe, ⟨hc, hd⟩, hdat, h1, ?_, rfl, I1.bare, raises_own T.exC T.tyC, q1 d (I1.hok.fresh M.dbig)⟩
    · by_cases hb : b = e
      · have q' : G'.get? b = some o := q
        rw [hb, ge] at q'; cases q'
      · exact (gk b hb).symm.trans q
    · rw [upd_ne (Ne.symm M.dne)]
      exact I1.hok.fresh M.new
/-- raise Low(e) -/
def tRaiseErr (C : Addr) (W : WX) (ta : TA) : TS := fun _ σ H => tMkErr C ta σ H fun cls d H' => W cls d σ H'
theorem ps_raiseErr {a : Expr} {ta : TA} {W : WX} {p pos pos2 : Pos} {k : Nat} (hc : X.calm = true) (T : PySem.ErrX.ErrTxt X.K X.mg nmx C fI) (hr : Room k X.A) (tk : Takes X W) (ha : PA X [a] ta) (hg : Gl X nmx := by rfl)
    (he : starEach (a :: []) X.env = (false, eval a X.env) :: starEach [] X.env := by rfl) (hpl : (backTo pos (starEach [] X.env)).any (·.1) = false := by rfl) (hdb : (nmx == ("__debug__" : Str)) = false := by decide) :
    PS X (.Raise (some (.Call (.Name nmx p) [a] [] pos)) none pos2) (tRaiseErr C W ta) := ps_raise hc tk (pmk_err T hr ha hg he hpl hdb)
/-- low.by, low the exception that the suite holds (at a; its class cls, its dict d) -/
def tPlcErr (C : Addr) (a : Addr) (cls : Value) (d : Option Addr) (te : TE) : TE := fun σ H Q => te σ H fun x H1 => x = .ref a ∧ cls = .ref C ∧ ∃ (dd : Addr) (v : V), d = some dd ∧ H1 dd = some (.xd [(("place" : Str), v)]) ∧ Q v H1
theorem pe_plcErr {a : Addr} {oe : Obj} {cls : Value} {d : Option Addr} {pn : List (Addr × Obj)} {e : Expr} {te : TE} {pos : Pos} (T : PySem.ErrX.ErrTxt X.K X.mg nmx C fI) (hz : Zc cls d oe) (hf : ∃ vs, oe.data = .fields vs) (he : PE (X.suite a ((a, oe) :: pn)) e te)
    (hb : attributeBase e "place" X.env (eval e X.env) = eval e X.env := by rfl) :
    PE (X.suite a ((a, oe) :: pn)) (.Attribute e "place" pos) (tPlcErr C a cls d te) := by
  refine ⟨fun pins s σ H Q I h => ?_⟩
  refine attr_of hb (thn (he.run pins s σ H _ I h) fun u s1 hh => ?_)
  obtain ⟨x, H1, I1, rx, ex, ec, dd, v, ed, ea, q⟩ := hh
  subst ex
  obtain rfl : u = Value.ref a := rx
  subst ec
  subst ed
  obtain ⟨ha, _⟩ := I1.pin (a, oe) (List.mem_append_left _ List.mem_cons_self)
  obtain ⟨vs, hd⟩ := hf
  have hx : ObjOk X.prog X.w H1 s1.heap dd (.xd [(("place" : Str), v)]) := I1.hok dd _ ea
  obtain ⟨mA, hns, hr⟩ := hx
  obtain ⟨od, ho, hl⟩ := lookIn_ns hns
  have l : List.lookup ("place" : Str) [(("place" : Str), v)] = some v := by simp [List.lookup]
  obtain ⟨u, hu, ru⟩ := RelO.some_of (v := v) (o := mA "place") (by rw [← l]; exact hr "place")
  have J : PySem.W.InstAt s1.heap a oe C (some od) := ⟨ha, hz.1, by unfold PySem.W.notCls; rw [hd] <;> rfl, by rw [hz.2]; exact ho⟩
  exact HandSPX.exc_get I1.kIn J T.ga T.gg T.exC (PySem.W.findObj_own T.hdC T.noN rfl (by rw [hl, hu])) (handed_of ru) ⟨v, H1, I1.tok _, ru, q⟩
end
end L2

namespace Vf
open PySem L2 PySem.Spec PyProof.Rows
/-- isinstance(e, c), e the error that the suite holds (at a; its class cls, its own dict d) -/
def rIsP (K : PySem.W.Frag) (D a : Addr) (cls : Value) (d : Option Addr) : List V → Hp → VK → Prop := fun xs H Q => cls = .ref D ∧ ∃ (dd : Addr) (pl c : V) (cv : Value) (b : Bool),
  d = some dd ∧ H dd = some (.xd [(("place" : Str), pl)]) ∧ xs = [.ref a, c] ∧ (∀ u, RelV c u → u = cv) ∧ PySem.W.kitOne K (.ref D) cv = some b ∧ Q (.bl b) H
theorem call_isP {X : Cx} {a D : Addr} {oe : Obj} {cls : Value} {d : Option Addr} {pn : List (Addr × Obj)} (C : ExcC X.K D) (hz : Zc cls d oe) (hf : ∃ vs, oe.data = .fields vs) : CallR (X.suite a ((a, oe) :: pn)) (.builtin "isinstance") (rIsP X.K D a cls d) := by
  intro pins s σ H xs us Q I r h
  obtain ⟨rfl, dd, pl, c, cv, b, rfl, ea, rfl, hcv, e, q⟩ := h
  obtain ⟨u1, u2, rfl, r1, r2⟩ := vals2 r
  cases (show u1 = Value.ref a from r1)
  have e2 := hcv _ r2
  subst e2
  obtain ⟨ha, _⟩ := I.pin (a, oe) (List.mem_append_left _ List.mem_cons_self)
  obtain ⟨vs, hd⟩ := hf
  obtain ⟨mA, hns, _⟩ := (show ObjOk X.prog X.w H s.heap dd (.xd [(("place" : Str), pl)]) from I.hok dd _ ea)
  obtain ⟨od, ho, _⟩ := lookIn_ns hns
  have J : PySem.W.InstAt s.heap a oe D (some od) := ⟨ha, hz.1, by unfold PySem.W.notCls; rw [hd] <;> rfl, by rw [hz.2]; exact ho⟩
  have hcl : (PySem.W.clsIn X.K D).isSome = true := by
    have h1 := C.hd
    unfold PySem.W.hasDictIn at h1
    cases h2 : PySem.W.clsIn X.K D with
    | none => rw [h2] at h1; cases h1
    | some cd => rfl
  exact PySem.W.kia_one (PySem.W.kitx_exc hcl C.hg C.hk C.hs C.ha C.hn C.ht C.hm) I.kIn J e (fun z => nomatch z) fun tk => ⟨.bl b, H, I.kept (t' := tk) fun _ _ z => z, rfl, q⟩
end Vf

namespace Vf
open PySem L2 PySem.Spec PyProof.Rows He
/-! ### the head's facts, and further ones that are yes or no -/
abbrev AlX : Type := AlD × Bool
def obsX (fa : List Fa) (fn : List DefD) (ex : List (PySem.W.Frag → Bool)) (K : PySem.W.Frag) : AlX := (obsD fa fn K, ex.all fun p => p K)
def obsXG (n : Nat) (fa : List Fa) (fn : List DefD) (ex : List (PySem.W.Frag → Bool)) (g : Addr → Option Obj) : AlX := obsX fa fn ex (frG g (asD g n))
def SaysX (fa : List Fa) (fn : List DefD) (ex : List (PySem.W.Frag → Bool)) (K : PySem.W.Frag) : Prop := SaysD fa fn K ∧ (ex.all fun p => p K) = true
def hookX (n : Nat) (fa : List Fa) (fn : List DefD) (ex : List (PySem.W.Frag → Bool)) : PySem.W.Hook where
  α := AlX
  obs := fun s => obsXG n fa fn ex s.heap.get?
  val := fun _ => (valD fn, true)
  says := fun _ h => ∃ K : PySem.W.Frag, K.In h ∧ SaysX fa fn ex K
  of := fun _ _ e => ⟨_, frG_in, congrArg (fun z : AlX => z.1) e, congrArg (fun z : AlX => z.2) e⟩
  keeps := fun _ _ _ ⟨K, hK, c⟩ k => ⟨K, PySem.W.Frag.In.keeps hK k, c⟩
theorem obsXG_eq {n : Nat} {fa : List Fa} {fn : List DefD} {ex : List (PySem.W.Frag → Bool)} {g : Addr → Option Obj} {s : Shared} (h : ∀ a, g a = s.heap.get? a) : obsXG n fa fn ex g = (hookX n fa fn ex).obs s := by
  have e : g = s.heap.get? := funext h
  rw [e] <;> rfl
theorem SaysX.more {fa : List Fa} {fn : List DefD} {ex : List (PySem.W.Frag → Bool)} {K : PySem.W.Frag} (c : SaysX fa fn ex K) (i : Nat) {p : PySem.W.Frag → Bool} (h : ex[i]? = some p := by rfl) : p K = true :=
  List.all_eq_true.mp c.2 p (List.mem_of_getElem? h)
/-! ### an own error, over ValueError through own classes, with __init__ from one of them -/
def errB (K : PySem.W.Frag) (C : Addr) : Bool := match K.lookup C with
  | some ⟨.type "type", _, .cls cd, sl⟩ => (match cd.mro, sl.toList with
    | .ref D :: bm, [_, _, _, _, some (.builtin n), _] => D == C && (n == "ValueError.__new__" && (!cd.hasDel && (cd.hasDict && PySem.HandSPX.refsVE bm)))
    | _, _ => false)
  | _ => false
theorem errB_ok {K : PySem.W.Frag} {C : Addr} (q : errB K C = true) : ∃ nm qn N bs bm sn sub ab col dd k0 k1 k2 k3 k5, K.lookup C = some (excClassObj nm qn C N bs bm true sn sub ab col dd k0 k1 k2 k3 k5 "ValueError.__new__") ∧ PySem.HandSPX.refsVE bm = true := by
  unfold errB at q
  split at q
  · rename_i dd cd sl ho
    split at q
    · rename_i D bm k0 k1 k2 k3 n k5 hm hs
      simp only [Bool.and_eq_true, beq_iff_eq, Bool.not_eq_true'] at q
      obtain ⟨rfl, rfl, hdel, hdi, hv⟩ := q
      obtain ⟨nm, bs, mro, ns, qn, hd, sn, sub, ab, col, del⟩ := cd
      dsimp only at hm hdel hdi
      subst hm hdel hdi
      obtain ⟨l⟩ := sl
      simp only at hs
      subst hs
      exact ⟨nm, qn, ns, bs, bm, sn, sub, ab, col, dd, k0, k1, k2, k3, k5, ho, hv⟩
    · cases q
  · cases q
def errAll (x bx : Str) (K : PySem.W.Frag) : Bool :=
  errB K (ga K x) && (eqO (PySem.W.findIn K (.ref (ga K x)) "__setattr__") (some (some (.builtin "object.__setattr__"))) && (eqO (PySem.W.findIn K (.ref (ga K x)) "__getattribute__") (some (some (.builtin "BaseException.__getattribute__"))) &&
  (eqO (PySem.W.findIn K (.ref (ga K x)) "__getattr__") (some none) && (eqO (PySem.W.findIn K (.ref (ga K x)) "place") (some none) && (eqO (PySem.W.findIn K (.ref (ga K x)) "__init__") (some (some (.ref (ma K (ga K bx) "__init__")))) &&
  (decide (PySem.W.typeIn K (.ref (ma K (ga K bx) "__init__")) = some (.type "function")) && (PySem.W.keepIn K (.ref (ga K x)) && (decide (PySem.W.subIn K (.ref (ga K x)) (.type "BaseException") = some true) && (decide (PySem.W.typeIn K (.ref (ga K x)) = some (.type "type")) &&
  (PySem.W.hasDictIn K (ga K x) && (decide (PySem.W.exmOne K (.ref (ga K x)) (.ref (ga K x)) = some true) && (decide (PySem.W.exmOne K (.ref (ga K x)) (.ref (ga K bx)) = some true) && (eqO (PySem.W.findIn K (.ref (ga K x)) "__class__") (some (some (.builtin "object.__class__"))) &&
  (eqO (PySem.W.specialIn K (.builtin "object.__class__") "__get__") (some (some (.builtin "getset_descriptor.__get__"))) && (decide (PySem.W.takesIn K (.builtin "object.__class__") = some true) && (decide (PySem.W.mroIn K (ga K x) (.type "object") = some true) &&
  (decide (PySem.W.kitOne K (.ref (ga K x)) (.ref (ga K x)) = some true) && (decide (PySem.W.kitOne K (.ref (ga K x)) (.ref (ga K bx)) = some true) && decide (PySem.W.kitOne K (.ref (ga K x)) (.type "ValueError") = some true)))))))))))))))))))
structure ErrAll (K : PySem.W.Frag) (mg : Str → Option Value) (x bx : Str) : Prop where
  er : PySem.ErrX.ErrTxt K mg x (ga K x) (ma K (ga K bx) "__init__")
  gB : mg bx = some (.ref (ga K bx))
  ec : ExcC K (ga K x)
  xb : PySem.W.exmOne K (.ref (ga K x)) (.ref (ga K bx)) = some true
  ii : PySem.W.kitOne K (.ref (ga K x)) (.ref (ga K x)) = some true
  ib : PySem.W.kitOne K (.ref (ga K x)) (.ref (ga K bx)) = some true
  iv : PySem.W.kitOne K (.ref (ga K x)) (.type "ValueError") = some true
theorem errAll_ok {K : PySem.W.Frag} {h : Heap} {mg : Str → Option Value} {x bx : Str} {fd : FuncData} {p1 p2 q1 q2 q3 q4 : Pos} (X : K.In h) (G : h.Ns mainGlobals mg) (c1 : (Fa.glo x).ok K = true) (c2 : (Fa.glo bx).ok K = true) (ce : errAll x bx K = true)
    (F : FunD K "__init__" "FolderkinError.__init__" (PySem.ErrX.iA p1 p2) (PySem.ErrX.iB q1 q2 q3 q4) PySem.ErrX.iS [] [] (ma K (ga K bx) "__init__") fd) : ErrAll K mg x bx := by
  obtain ⟨e1, ce⟩ := ba ce
  obtain ⟨e2, ce⟩ := ba ce
  obtain ⟨e3, ce⟩ := ba ce
  obtain ⟨e4, ce⟩ := ba ce
  obtain ⟨e5, ce⟩ := ba ce
  obtain ⟨e6, ce⟩ := ba ce
  obtain ⟨e7, ce⟩ := ba ce
  obtain ⟨e8, ce⟩ := ba ce
  obtain ⟨e9, ce⟩ := ba ce
  obtain ⟨e10, ce⟩ := ba ce
  obtain ⟨e11, ce⟩ := ba ce
  obtain ⟨e12, ce⟩ := ba ce
  obtain ⟨e13, ce⟩ := ba ce
  obtain ⟨e14, ce⟩ := ba ce
  obtain ⟨e15, ce⟩ := ba ce
  obtain ⟨e16, ce⟩ := ba ce
  obtain ⟨e17, ce⟩ := ba ce
  obtain ⟨e18, ce⟩ := ba ce
  obtain ⟨e19, e20⟩ := ba ce
  obtain ⟨oc, od, dV, kV, doc, pm, an, cdv, ct, osl, rfl, lk, hcd, dfl, _⟩ := F.ex
  have ed : dV = .none := by
    rcases dfl with ⟨_, h⟩ | ⟨h, _⟩
    · exact h
    · exact absurd rfl h
  subst ed
  exact { er := { gC := glo_ok X G c1, cls := errB_ok e1, sa := eqO_ok e2, ga := eqO_ok e3, gg := eqO_ok e4, noN := eqO_ok e5, iC := eqO_ok e6, tC := of_decide_eq_true e7, kC := e8, exC := of_decide_eq_true e9, tyC := of_decide_eq_true e10, hdC := e11, te := of_decide_eq_true e12,
                  fn := ⟨oc, od, kV, doc, pm, an, cdv, ct, osl, p1, p2, q1, q2, q3, q4, lk, hcd⟩ },
          gB := glo_ok X G c2, ec := ⟨eqO_ok e3, eqO_ok e4, of_decide_eq_true e9, e11, eqO_ok e14, eqO_ok e15, of_decide_eq_true e16, of_decide_eq_true e17⟩,
          xb := of_decide_eq_true e13, ii := of_decide_eq_true e18, ib := of_decide_eq_true e19, iv := of_decide_eq_true e20 }
/-! ### calls of a def that may raise -/
structure CalX (P : Program) (w : World) (K : PySem.W.Frag) (mg : Str → Option Value) (base : Heap) (k : Nat) (x : Str) (sp : Sp) : Prop where
  ex : ∃ (f : Addr) (fd : FuncData) (ps : List Str), FnOk P w K mg base (L2.CX P w) k f fd ps sp ∧ mg x = some (.ref f) ∧ PySem.W.keepIn K (.ref f) = true ∧ Binds K fd ps []
theorem pe_cX {X : Cx} {k j : Nat} {x : Str} {sp : Sp} {p pos : Pos} {e : Expr} {es : List Expr} {t : TA} {W : WX} (c : CalX X.prog X.w X.K X.mg X.base k x sp) (hr : Room j X.A) (hk : k ≤ j) (tk : Takes X W) (hg : Gl X x) (ha : PA X (e :: es) t)
    (hdb : (x == ("__debug__" : Str)) = false := by decide) (he : starEach (e :: es) X.env = (false, eval e X.env) :: starEach es X.env := by rfl)
    (hpl : (backTo pos (starEach es X.env)).any (·.1) = false := by rfl) : PE X (.Call (.Name x p) (e :: es) [] pos) (tCallS sp (WE W) t) := by
  obtain ⟨f, fd, ps, F, hm, kp, b⟩ := c.ex
  exact pe_callS F (hr.mono hk) hg hm kp b (fun σ => passAt tk σ) ha hdb he hpl
/-- promises of a def that may raise, by arity -/
abbrev sp1X (R : V → Hp → VK → XK → Prop) : Sp := fun vs H Q E => ∃ a, vs = [a] ∧ R a H Q E
end Vf

namespace Vf
open PySem L2 PySem.Spec PyProof.Rows He
/-- a name that the top imports -/
def bfB (x : Str) (id : String) (K : PySem.W.Frag) : Bool := eqO (PySem.W.nsIn K mainGlobals x) (some (some (.builtin id)))
theorem bfB_ok {K : PySem.W.Frag} {h : Heap} {mg : Str → Option Value} (X : K.In h) (G : h.Ns mainGlobals mg) {x : Str} {id : String} (c : bfB x id K = true) : mg x = some (.builtin id) := PySem.W.mg_of X G (eqO_ok c)
/-- s.index(y), y found -/
theorem mt_idxS {X : Cx} : MtR X "str.index" (fun x xs H Q => ∃ (a b : Str) (k : Nat), x = .str a ∧ xs = [.str b] ∧ Txt.index0 a b = some k ∧ Q (.int (k : Nat)) H) := by
  intro pins s σ H x xs v us Q I rx rs h
  obtain ⟨a, b, k, rfl, rfl, hy, hq⟩ := h
  obtain ⟨t, rfl⟩ := rx
  cases rs with
  | cons r1 rs =>
    cases rs
    obtain ⟨u, rfl⟩ := r1
    cases q : Builtin.Str.occurrences a b 0 a.length 1 with
    | nil =>
      unfold Txt.index0 at hy
      rw [q] at hy
      cases hy
    | cons k' rest =>
      unfold Txt.index0 at hy
      rw [q] at hy
      cases hy
      exact PySem.SC.index q ⟨.int (k : Nat), H, I.tok _, ⟨_, rfl⟩, hq⟩
/-- reversed(range(a, b, c)) -/
def PRg3 (X : Cx) (e : Expr) (t : L2.St → Hp → (Int → Int → Int → Nat → Hp → Prop) → Prop) : Prop :=
  ∀ (pins : List (Addr × Obj)) (s : Shared) (σ : L2.St) (H : Hp) (Q : Int → Int → Int → Nat → Hp → Prop), Inv X pins σ H s → t σ H Q →
    wpAny (model X.prog X.w) X.A (eval e X.env) (fun x s' => ∃ r a b c n t u v H', x = .ref r ∧ IsRange s'.heap r a b c t u v ∧ Builtin.Range.handS_smallRev a b c = true ∧ Builtin.Range.rangeSize a b c = (n : Nat) ∧ Inv X pins σ H' s' ∧ Q a b c n H') X.xe s
def tRg3 (ta : TA) : L2.St → Hp → (Int → Int → Int → Nat → Hp → Prop) → Prop := fun σ H Q => ta σ H fun vs H1 => ∃ i j k n, vs = [.int i, .int j, .int k] ∧ RgC i j k n ∧ Builtin.Range.handS_smallRev i j k = true ∧ Q i j k n H1
theorem prg_3 {X : Cx} {a b c : Expr} {ta : TA} {p pos : Pos} (hg : Gl X "range") (hm : X.mg "range" = none) (ha : PA X [a, b, c] ta)
    (hs : starEach [a, b, c] X.env = (false, eval a X.env) :: starEach [b, c] X.env := by rfl) (hpl : (backTo pos (starEach [b, c] X.env)).any (·.1) = false := by rfl) : PRg3 X (.Call (.Name "range" p) [a, b, c] [] pos) (tRg3 ta) := by
  intro pins s σ H Q I h
  refine Call_ (ld_blt I hg hm boot_range (PyProof.Rows.callWith_type1 (thn (ha.run pos pins s σ H _ I h) fun us s1 ⟨vs, H1, I1, r1, q1⟩ => ?_) hs hpl))
  obtain ⟨i, j, k, n, e, ⟨c0, c1, c2, c3⟩, hr, q⟩ := q1
  subst e
  cases r1 with
  | cons r rr =>
    cases rr with
    | cons r' rr =>
      cases rr with
      | cons r'' rr =>
        cases rr
        obtain ⟨t, rfl⟩ := r
        obtain ⟨t', rfl⟩ := r'
        obtain ⟨t'', rfl⟩ := r''
        exact call_range_3 c0 ⟨_, i, j, k, n, _, _, _, H1, rfl, IsRange.new .., hr, c3, I1.kept fun b u e => Heap.get?_push_of_some _ e, q⟩ (.inl (PyProof.noPylong_small c1))
def iRevR3 (tr : L2.St → Hp → (Int → Int → Int → Nat → Hp → Prop) → Prop) : TI := fun σ H R => tr σ H fun a _ c n H1 => R (Itc (a + ((n : Int) - 1) * c) (-c) n) H1
theorem pi_revR3 {X : Cx} {tg e : Expr} {tr : L2.St → Hp → (Int → Int → Int → Nat → Hp → Prop) → Prop} {p pos : Pos} (hg : Gl X "reversed") (hm : X.mg "reversed" = none) (he : PRg3 X e tr) (hs : starEach [e] X.env = (false, eval e X.env) :: starEach [] X.env := by rfl) :
    PI X tg (.Call (.Name "reversed" p) [e] [] pos) (iRevR3 tr) := by
  refine ⟨fun pins s σ H R I h => ?_⟩
  refine Call_ (ld_blt I hg hm PyProof.Rows.boot_reversed (PyProof.Rows.callWith_type1 (args_cons (thn (he pins s σ H _ I h) fun u s1 hx => args_nil ?_) hs) hs rfl))
  obtain ⟨r, a, b, c, n, t, w1, v, H1, eu, hr, hsm, hn, I1, q⟩ := hx
  subst eu
  refine call_reversed_range hr hsm (wpAny_pyIter_rangeiter (Heap.get?_push_size _ rfl) ?_)
  refine pi_one (tk := s1.toks) I1 _ (turn_rangeC _ (a + ((n : Int) - 1) * c) (-c) n) ?_ q
  have e1 : a + ((n : Int) - 1) * c + ((0 : Nat) : Int) * (-c) = a + (Builtin.Range.rangeSize a b c - 1) * c := by
    rw [hn]
    show _ + (0 : Int) * (-c) = _
    rw [Int.zero_mul, Int.add_zero]
  have e2 : (n : Int) - ((0 : Nat) : Int) = Builtin.Range.rangeSize a b c := by rw [hn]; omega
  show IsRangeIter _ _ (a + ((n : Int) - 1) * c + ((0 : Nat) : Int) * (-c)) ((n : Int) - ((0 : Nat) : Int)) (-c)
  rw [e1, e2]
  exact Heap.get?_push_size _ rfl
theorem pi_tupK {X : Cx} {tg e : Expr} {te : TE} (K : PySem.W.Frag) (h : PE X e te) (hK : X.K = K := by rfl) : PI X tg e (iTup K te) := hK ▸ pi_tup h
theorem pi_listK {X : Cx} {tg e : Expr} {te : TE} (K : PySem.W.Frag) (h : PE X e te) (hK : X.K = K := by rfl) : PI X tg e (iList K te) := hK ▸ pi_list h
end Vf

namespace Vk54
open PySem PySem.Spec PyProof.Rows L2 Vf
def topS (i : Nat) : Stmt := PySem.Challenge.pw_folderkin_k54_sealed_names_and_contents.main.body.getD i (.Pass ⟨0, 0, 0, 0⟩)
abbrev s_FolderkinError___init__ : Stmt := inClass (topS 2) 0
abbrev N_FolderkinError___init__ : List Str := ["self", "place"]
theorem sc_FolderkinError___init__ : FnScope N_FolderkinError___init__ ["self", "place"] (defScope s_FolderkinError___init__) := ⟨rfl, rfl, rfl, by decide +kernel, rfl, by decide +kernel, by decide +kernel⟩
abbrev s_block_number : Stmt := topS 6
abbrev N_block_number : List Str := ["data", "number", "byte"]
theorem sc_block_number : FnScope N_block_number ["data"] (defScope s_block_number) := ⟨rfl, rfl, rfl, by decide +kernel, rfl, by decide +kernel, by decide +kernel⟩
abbrev s_block_size : Stmt := topS 7
abbrev N_block_size : List Str := ["number", "size"]
theorem sc_block_size : FnScope N_block_size ["number"] (defScope s_block_size) := ⟨rfl, rfl, rfl, by decide +kernel, rfl, by decide +kernel, by decide +kernel⟩
abbrev s_is_block : Stmt := topS 8
abbrev N_is_block : List Str := ["number"]
theorem sc_is_block : FnScope N_is_block ["number"] (defScope s_is_block) := ⟨rfl, rfl, rfl, by decide +kernel, rfl, by decide +kernel, by decide +kernel⟩
abbrev s_block_bytes : Stmt := topS 9
abbrev N_block_bytes : List Str := ["number", "size", "behind"]
theorem sc_block_bytes : FnScope N_block_bytes ["number"] (defScope s_block_bytes) := ⟨rfl, rfl, rfl, by decide +kernel, rfl, by decide +kernel, by decide +kernel⟩
abbrev s_split : Stmt := topS 10
abbrev N_split : List Str := ["content", "at"]
theorem sc_split : FnScope N_split ["content"] (defScope s_split) := ⟨rfl, rfl, rfl, by decide +kernel, rfl, by decide +kernel, by decide +kernel⟩
abbrev s_joined : Stmt := topS 11
abbrev N_joined : List Str := ["numbers", "content", "index", "number"]
theorem sc_joined : FnScope N_joined ["numbers"] (defScope s_joined) := ⟨rfl, rfl, rfl, by decide +kernel, rfl, by decide +kernel, by decide +kernel⟩
abbrev s_root_of : Stmt := topS 13
abbrev N_root_of : List Str := ["name"]
theorem sc_root_of : FnScope N_root_of ["name"] (defScope s_root_of) := ⟨rfl, rfl, rfl, by decide +kernel, rfl, by decide +kernel, by decide +kernel⟩
abbrev s_mixed : Stmt := topS 17
abbrev N_mixed : List Str := ["digits", "base", "key", "at", "number"]
theorem sc_mixed : FnScope N_mixed ["digits", "base", "key"] (defScope s_mixed) := ⟨rfl, rfl, rfl, by decide +kernel, rfl, by decide +kernel, by decide +kernel⟩
abbrev s_unmixed : Stmt := topS 18
abbrev N_unmixed : List Str := ["digits", "base", "key", "whole", "at", "number"]
theorem sc_unmixed : FnScope N_unmixed ["digits", "base", "key"] (defScope s_unmixed) := ⟨rfl, rfl, rfl, by decide +kernel, rfl, by decide +kernel, by decide +kernel⟩
abbrev s_factor : Stmt := topS 19
abbrev N_factor : List Str := ["number", "base", "units", "unit"]
theorem sc_factor : FnScope N_factor ["number", "base"] (defScope s_factor) := ⟨rfl, rfl, rfl, by decide +kernel, rfl, by decide +kernel, by decide +kernel⟩
abbrev s_number : Stmt := topS 20
abbrev N_number : List Str := ["digits", "base", "number", "digit"]
theorem sc_number : FnScope N_number ["digits", "base"] (defScope s_number) := ⟨rfl, rfl, rfl, by decide +kernel, rfl, by decide +kernel, by decide +kernel⟩
abbrev s_turned_digits : Stmt := topS 21
abbrev N_turned_digits : List Str := ["number", "base", "count", "digits", "_"]
theorem sc_turned_digits : FnScope N_turned_digits ["number", "base", "count"] (defScope s_turned_digits) := ⟨rfl, rfl, rfl, by decide +kernel, rfl, by decide +kernel, by decide +kernel⟩
abbrev s_power : Stmt := topS 22
abbrev N_power : List Str := ["base", "count", "whole", "_"]
theorem sc_power : FnScope N_power ["base", "count"] (defScope s_power) := ⟨rfl, rfl, rfl, by decide +kernel, rfl, by decide +kernel, by decide +kernel⟩
abbrev s_inverse : Stmt := topS 23
abbrev N_inverse : List Str := ["number", "whole", "last", "rest", "last_product", "product", "times"]
theorem sc_inverse : FnScope N_inverse ["number", "whole"] (defScope s_inverse) := ⟨rfl, rfl, rfl, by decide +kernel, rfl, by decide +kernel, by decide +kernel⟩
abbrev s_is_integer : Stmt := topS 26
abbrev N_is_integer : List Str := ["value"]
theorem sc_is_integer : FnScope N_is_integer ["value"] (defScope s_is_integer) := ⟨rfl, rfl, rfl, by decide +kernel, rfl, by decide +kernel, by decide +kernel⟩
abbrev s_is_key : Stmt := topS 30
abbrev N_is_key : List Str := ["value", "part"]
theorem sc_is_key : FnScope N_is_key ["value"] (defScope s_is_key) := ⟨rfl, rfl, rfl, by decide +kernel, rfl, by decide +kernel, by decide +kernel⟩
abbrev s_seal_name : Stmt := topS 31
abbrev N_seal_name : List Str := ["name", "key", "root"]
theorem sc_seal_name : FnScope N_seal_name ["name", "key"] (defScope s_seal_name) := ⟨rfl, rfl, rfl, by decide +kernel, rfl, by decide +kernel, by decide +kernel⟩
abbrev s_open_name : Stmt := topS 32
abbrev N_open_name : List Str := ["name", "key", "root"]
theorem sc_open_name : FnScope N_open_name ["name", "key"] (defScope s_open_name) := ⟨rfl, rfl, rfl, by decide +kernel, rfl, by decide +kernel, by decide +kernel⟩
abbrev s_digits_of : Stmt := topS 33
abbrev N_digits_of : List Str := ["root", "char"]
theorem sc_digits_of : FnScope N_digits_of ["root"] (defScope s_digits_of) := ⟨rfl, rfl, rfl, by decide +kernel, rfl, by decide +kernel, by decide +kernel⟩
abbrev s_name_of : Stmt := topS 34
abbrev N_name_of : List Str := ["digits", "digit"]
theorem sc_name_of : FnScope N_name_of ["digits"] (defScope s_name_of) := ⟨rfl, rfl, rfl, by decide +kernel, rfl, by decide +kernel, by decide +kernel⟩
abbrev s_seal_blocks : Stmt := topS 35
abbrev N_seal_blocks : List Str := ["blocks", "key", "block"]
theorem sc_seal_blocks : FnScope N_seal_blocks ["blocks", "key"] (defScope s_seal_blocks) := ⟨rfl, rfl, rfl, by decide +kernel, rfl, by decide +kernel, by decide +kernel⟩
abbrev s_open_blocks : Stmt := topS 36
abbrev N_open_blocks : List Str := ["blocks", "key", "block"]
theorem sc_open_blocks : FnScope N_open_blocks ["blocks", "key"] (defScope s_open_blocks) := ⟨rfl, rfl, rfl, by decide +kernel, rfl, by decide +kernel, by decide +kernel⟩
abbrev s_seal_content : Stmt := topS 37
abbrev N_seal_content : List Str := ["content", "key"]
theorem sc_seal_content : FnScope N_seal_content ["content", "key"] (defScope s_seal_content) := ⟨rfl, rfl, rfl, by decide +kernel, rfl, by decide +kernel, by decide +kernel⟩
abbrev s_open_content : Stmt := topS 38
abbrev N_open_content : List Str := ["content", "key"]
theorem sc_open_content : FnScope N_open_content ["content", "key"] (defScope s_open_content) := ⟨rfl, rfl, rfl, by decide +kernel, rfl, by decide +kernel, by decide +kernel⟩
abbrev s_law_draws : Stmt := topS 40
abbrev N_law_draws : List Str := ["script"]
theorem sc_law_draws : FnScope N_law_draws ["script"] (defScope s_law_draws) := ⟨rfl, rfl, rfl, by decide +kernel, rfl, by decide +kernel, by decide +kernel⟩
abbrev s_law_draw : Stmt := topS 41
abbrev N_law_draw : List Str := ["draws", "limit", "cell", "value"]
theorem sc_law_draw : FnScope N_law_draw ["draws", "limit"] (defScope s_law_draw) := ⟨rfl, rfl, rfl, by decide +kernel, rfl, by decide +kernel, by decide +kernel⟩
abbrev s_law_key : Stmt := topS 42
abbrev N_law_key : List Str := ["draws", "k"]
theorem sc_law_key : FnScope N_law_key ["draws"] (defScope s_law_key) := ⟨rfl, rfl, rfl, by decide +kernel, rfl, by decide +kernel, by decide +kernel⟩
abbrev s_law_factor : Stmt := topS 43
abbrev N_law_factor : List Str := ["base", "number", "units", "k", "d"]
theorem sc_law_factor : FnScope N_law_factor ["base", "number"] (defScope s_law_factor) := ⟨rfl, rfl, rfl, by decide +kernel, rfl, by decide +kernel, by decide +kernel⟩
abbrev s_law_mixed : Stmt := topS 44
abbrev N_law_mixed : List Str := ["number", "base", "digits", "key", "size", "k", "turn", "row", "digit"]
theorem sc_law_mixed : FnScope N_law_mixed ["number", "base", "digits", "key"] (defScope s_law_mixed) := ⟨rfl, rfl, rfl, by decide +kernel, rfl, by decide +kernel, by decide +kernel⟩
abbrev s_law_sealed_name : Stmt := topS 45
abbrev N_law_sealed_name : List Str := ["name", "key", "letters", "root", "number", "char", "found"]
theorem sc_law_sealed_name : FnScope N_law_sealed_name ["name", "key"] (defScope s_law_sealed_name) := ⟨rfl, rfl, rfl, by decide +kernel, rfl, by decide +kernel, by decide +kernel⟩
abbrev s_law_sealed_content : Stmt := topS 46
abbrev N_law_sealed_content : List Str := ["content", "key", "found", "at", "piece", "number", "byte", "row"]
theorem sc_law_sealed_content : FnScope N_law_sealed_content ["content", "key"] (defScope s_law_sealed_content) := ⟨rfl, rfl, rfl, by decide +kernel, rfl, by decide +kernel, by decide +kernel⟩
abbrev s_law_user_name : Stmt := topS 47
abbrev N_law_user_name : List Str := ["draws", "letters", "size", "k"]
theorem sc_law_user_name : FnScope N_law_user_name ["draws"] (defScope s_law_user_name) := ⟨rfl, rfl, rfl, by decide +kernel, rfl, by decide +kernel, by decide +kernel⟩
abbrev s_law_any_name : Stmt := topS 48
abbrev N_law_any_name : List Str := ["draws", "name"]
theorem sc_law_any_name : FnScope N_law_any_name ["draws"] (defScope s_law_any_name) := ⟨rfl, rfl, rfl, by decide +kernel, rfl, by decide +kernel, by decide +kernel⟩
abbrev s_law_bytes : Stmt := topS 49
abbrev N_law_bytes : List Str := ["draws", "size", "k"]
theorem sc_law_bytes : FnScope N_law_bytes ["draws"] (defScope s_law_bytes) := ⟨rfl, rfl, rfl, by decide +kernel, rfl, by decide +kernel, by decide +kernel⟩
abbrev s_law : Stmt := topS 50
abbrev N_law : List Str := ["script", "draws", "key", "names", "root", "contents", "name", "sealed", "content", "before", "odd", "k", "char", "byte", "value"]
theorem sc_law : FnScope N_law ["script"] (defScope s_law) := ⟨rfl, rfl, rfl, by decide +kernel, rfl, by decide +kernel, by decide +kernel⟩
structure Txt (K : PySem.W.Frag) (mg : Str → Option Value) : Prop where
  f_abs : mg "abs" = none
  f_all : mg "all" = none
  f_bool : mg "bool" = none
  f_enumerate : mg "enumerate" = none
  f_int : mg "int" = none
  f_isinstance : mg "isinstance" = none
  f_len : mg "len" = none
  f_list : mg "list" = none
  f_range : mg "range" = none
  f_reversed : mg "reversed" = none
  f_str : mg "str" = none
  f_tuple : mg "tuple" = none
  c_BLOCK : ∃ u, mg "BLOCK" = some u ∧ RelV (.int 4) u
  c_BYTE_BASE : ∃ u, mg "BYTE_BASE" = some u ∧ RelV (.int 256) u
  c_CHARACTERS : ∃ u, mg "CHARACTERS" = some u ∧ RelV (.str "-./0123456789ABCDEFGHIJKLMNOPQRSTUVWXYZ_abcdefghijklmnopqrstuvwxyz~") u
  c_NAME_BASE : ∃ u, mg "NAME_BASE" = some u ∧ RelV (.int 66) u
  c__KEY_SIZE : ∃ u, mg "_KEY_SIZE" = some u ∧ RelV (.int 8) u
  c__LARGEST : ∃ u, mg "_LARGEST" = some u ∧ RelV (.int 4294967295) u
  b_gcd : mg "gcd" = some (.builtin "math.gcd")
def bnum (c : List Int) : Int := c.foldl (fun n b => n * 256 + b) 1
def bsize (n : Int) : Int := if n / 256 = 1 then 1 else if n / 65536 = 1 then 2 else if n / 16777216 = 1 then 3 else if n / 4294967296 = 1 then 4 else 0
def bbytes (n : Int) : List Int :=
  if bsize n = 1 then [n % 256] else if bsize n = 2 then [n / 256 % 256, n % 256] else if bsize n = 3 then [n / 65536 % 256, n / 256 % 256, n % 256]
  else if bsize n = 4 then [n / 16777216 % 256, n / 65536 % 256, n / 256 % 256, n % 256] else []
def isB (c : List Int) : Prop := ∀ b ∈ c, 0 ≤ b ∧ b < 256
def chunks : List Int → List (List Int)
  | [] => []
  | [a] => [[a]]
  | [a, b] => [[a, b]]
  | [a, b, c] => [[a, b, c]]
  | a :: b :: c :: d :: r => [a, b, c, d] :: chunks r
theorem chunks_flat : ∀ xs, (chunks xs).flatten = xs
  | [] => rfl
  | [a] => rfl
  | [a, b] => rfl
  | [a, b, c] => rfl
  | a :: b :: c :: d :: r => by
    show [a, b, c, d] ++ (chunks r).flatten = _
    rw [chunks_flat r]
    rfl
theorem chunks_len : ∀ xs, (chunks xs).length = (xs.length + 3) / 4
  | [] => rfl
  | [a] => by simp [chunks]
  | [a, b] => by simp [chunks]
  | [a, b, c] => by simp [chunks]
  | a :: b :: c :: d :: r => by
    have ih := chunks_len r
    show (chunks r).length + 1 = (r.length + 4 + 3) / 4
    omega
theorem chunks_get : ∀ (xs : List Int) (i : Nat), i < (xs.length + 3) / 4 → (chunks xs)[i]? = some ((xs.drop (4 * i)).take 4)
  | [], i, h => by simp at h
  | [a], i, h => by
    have e : i = 0 := by simp at h; omega
    subst e; rfl
  | [a, b], i, h => by
    have e : i = 0 := by simp at h; omega
    subst e; rfl
  | [a, b, c], i, h => by
    have e : i = 0 := by simp at h; omega
    subst e; rfl
  | a :: b :: c :: d :: r, 0, h => rfl
  | a :: b :: c :: d :: r, i + 1, h => by
    have ih := chunks_get r i (by simp at h; omega)
    show (chunks r)[i]? = _
    rw [ih]
    have e : 4 * (i + 1) = (4 * i) + 1 + 1 + 1 + 1 := by omega
    rw [e]
    rfl
theorem chunks_map (xs : List Int) : chunks xs = (List.range ((xs.length + 3) / 4)).map fun i => (xs.drop (4 * i)).take 4 := by
  refine List.ext_getElem? fun i => ?_
  by_cases h : i < (xs.length + 3) / 4
  · rw [chunks_get xs i h, List.getElem?_map, List.getElem?_range h]
    rfl
  · rw [List.getElem?_eq_none (by rw [chunks_len]; omega), List.getElem?_eq_none (by simp; omega)]
/-- a piece: one to four bytes -/
structure Piece (c : List Int) : Prop where
  b : isB c
  h1 : 1 ≤ c.length
  h4 : c.length ≤ 4
theorem chunks_piece : ∀ (xs : List Int), isB xs → ∀ c ∈ chunks xs, Piece c
  | [], _, c, h => by cases h
  | [a], hb, c, h => by
    rw [List.mem_singleton.mp h]; exact ⟨hb, by simp, by simp⟩
  | [a, b], hb, c, h => by
    rw [List.mem_singleton.mp h]; exact ⟨hb, by simp, by simp⟩
  | [a, b, c'], hb, c, h => by
    rw [List.mem_singleton.mp h]; exact ⟨hb, by simp, by simp⟩
  | a :: b :: c' :: d :: r, hb, c, h => by
    rcases List.mem_cons.mp h with e | h
    · rw [e]
      exact ⟨fun x hx => hb x (by simp at hx ⊢; rcases hx with q | q | q | q <;> simp [q]), by simp, by simp⟩
    · exact chunks_piece r (fun x hx => hb x (by simp [hx])) c h
theorem Piece.cases {c : List Int} {P : List Int → Prop} (h : Piece c) (p1 : ∀ a, 0 ≤ a ∧ a < 256 → P [a]) (p2 : ∀ a b, 0 ≤ a ∧ a < 256 → 0 ≤ b ∧ b < 256 → P [a, b])
    (p3 : ∀ a b d, 0 ≤ a ∧ a < 256 → 0 ≤ b ∧ b < 256 → 0 ≤ d ∧ d < 256 → P [a, b, d]) (p4 : ∀ a b d e, 0 ≤ a ∧ a < 256 → 0 ≤ b ∧ b < 256 → 0 ≤ d ∧ d < 256 → 0 ≤ e ∧ e < 256 → P [a, b, d, e]) : P c := by
  obtain ⟨hb, h1, h4⟩ := h
  match c, hb, h1, h4 with
  | [a], hb, _, _ => exact p1 a (hb a (by simp))
  | [a, b], hb, _, _ => exact p2 a b (hb a (by simp)) (hb b (by simp))
  | [a, b, d], hb, _, _ => exact p3 a b d (hb a (by simp)) (hb b (by simp)) (hb d (by simp))
  | [a, b, d, e], hb, _, _ => exact p4 a b d e (hb a (by simp)) (hb b (by simp)) (hb d (by simp)) (hb e (by simp))
  | _ :: _ :: _ :: _ :: _ :: _, _, _, h4 => simp at h4
theorem bnum1 (a : Int) : bnum [a] = 256 + a := by simp [bnum]
theorem bnum2 (a b : Int) : bnum [a, b] = 65536 + a * 256 + b := by simp [bnum]; omega
theorem bnum3 (a b d : Int) : bnum [a, b, d] = 16777216 + a * 65536 + b * 256 + d := by simp [bnum]; omega
theorem bnum4 (a b d e : Int) : bnum [a, b, d, e] = 4294967296 + a * 16777216 + b * 65536 + d * 256 + e := by simp [bnum]; omega
theorem bsize_bnum {c : List Int} (h : Piece c) : bsize (bnum c) = c.length := by
  refine h.cases (P := fun c => bsize (bnum c) = c.length) (fun a ha => ?_) (fun a b ha hb => ?_) (fun a b d ha hb hd => ?_) (fun a b d e ha hb hd he => ?_)
  · rw [bnum1]; unfold bsize; rw [if_pos (by omega)]; rfl
  · rw [bnum2]; unfold bsize; rw [if_neg (by omega), if_pos (by omega)]; rfl
  · rw [bnum3]; unfold bsize; rw [if_neg (by omega), if_neg (by omega), if_pos (by omega)]; rfl
  · rw [bnum4]; unfold bsize; rw [if_neg (by omega), if_neg (by omega), if_neg (by omega), if_pos (by omega)]; rfl
theorem bbytes_bnum {c : List Int} (h : Piece c) : bbytes (bnum c) = c := by
  have hs := bsize_bnum h
  unfold bbytes
  rw [hs]
  refine h.cases (P := fun c => (if (c.length : Int) = 1 then [bnum c % 256] else if (c.length : Int) = 2 then [bnum c / 256 % 256, bnum c % 256] else if (c.length : Int) = 3 then [bnum c / 65536 % 256, bnum c / 256 % 256, bnum c % 256]
    else if (c.length : Int) = 4 then [bnum c / 16777216 % 256, bnum c / 65536 % 256, bnum c / 256 % 256, bnum c % 256] else []) = c) (fun a ha => ?_) (fun a b ha hb => ?_) (fun a b d ha hb hd => ?_) (fun a b d e ha hb hd he => ?_)
  · rw [if_pos (show ((([a] : List Int).length : Nat) : Int) = 1 from rfl), bnum1]
    congr 1
    omega
  · rw [if_neg (by simp), if_pos (show ((([a, b] : List Int).length : Nat) : Int) = 2 from rfl), bnum2]
    have e1 : (65536 + a * 256 + b) / 256 % 256 = a := by omega
    have e2 : (65536 + a * 256 + b) % 256 = b := by omega
    rw [e1, e2]
  · rw [if_neg (by simp), if_neg (by simp), if_pos (show ((([a, b, d] : List Int).length : Nat) : Int) = 3 from rfl), bnum3]
    have e1 : (16777216 + a * 65536 + b * 256 + d) / 65536 % 256 = a := by omega
    have e2 : (16777216 + a * 65536 + b * 256 + d) / 256 % 256 = b := by omega
    have e3 : (16777216 + a * 65536 + b * 256 + d) % 256 = d := by omega
    rw [e1, e2, e3]
  · rw [if_neg (by simp), if_neg (by simp), if_neg (by simp), if_pos (show ((([a, b, d, e] : List Int).length : Nat) : Int) = 4 from rfl), bnum4]
    have e1 : (4294967296 + a * 16777216 + b * 65536 + d * 256 + e) / 16777216 % 256 = a := by omega
    have e2 : (4294967296 + a * 16777216 + b * 65536 + d * 256 + e) / 65536 % 256 = b := by omega
    have e3 : (4294967296 + a * 16777216 + b * 65536 + d * 256 + e) / 256 % 256 = d := by omega
    have e4 : (4294967296 + a * 16777216 + b * 65536 + d * 256 + e) % 256 = e := by omega
    rw [e1, e2, e3, e4]
theorem bnum_inj {c d : List Int} (hc : Piece c) (hd : Piece d) : bnum c = bnum d ↔ c = d :=
  ⟨fun e => by rw [← bbytes_bnum hc, ← bbytes_bnum hd, e], fun e => by rw [e]⟩
theorem flat_bytes {xs : List Int} (h : isB xs) : ((chunks xs).map bnum).flatMap bbytes = xs := by
  have q : ∀ l : List (List Int), (∀ c ∈ l, Piece c) → (l.map bnum).flatMap bbytes = l.flatten := by
    intro l
    induction l with
    | nil => intro _; rfl
    | cons c r ih =>
      intro hp
      show bbytes (bnum c) ++ (r.map bnum).flatMap bbytes = c ++ r.flatten
      rw [bbytes_bnum (hp c (List.mem_cons_self ..)), ih fun d hd => hp d (List.mem_cons_of_mem _ hd)]
  rw [q _ (chunks_piece xs h), chunks_flat]
def nums (xs : List Int) : List Int := (chunks xs).map bnum
theorem nums_inj {xs ys : List Int} (h1 : isB xs) (h2 : isB ys) : nums xs = nums ys ↔ xs = ys :=
  ⟨fun e => by rw [← flat_bytes h1, ← flat_bytes h2]; exact congrArg _ e, fun e => by rw [e]⟩
/-- the order of two rows of bytes by their pieces -/
def lessP : List (List Int) → List (List Int) → Bool
  | [], [] => false
  | [], _ :: _ => true
  | _ :: _, [] => false
  | c :: cs, d :: ds => if c = d then lessP cs ds else if c.length = d.length then HT.lexLt c d else decide (c.length < d.length)
theorem bnum_len {c d : List Int} (hc : Piece c) (hd : Piece d) (h : c.length < d.length) : bnum c < bnum d := by
  have key : ∀ c : List Int, Piece c → 256 ^ c.length ≤ bnum c ∧ bnum c < 2 * 256 ^ c.length := fun c h => by
    refine h.cases (P := fun c => 256 ^ c.length ≤ bnum c ∧ bnum c < 2 * 256 ^ c.length) (fun a ha => ?_) (fun a b ha hb => ?_) (fun a b d ha hb hd => ?_) (fun a b d e ha hb hd he => ?_)
    · rw [bnum1, show (256 : Int) ^ ([a] : List Int).length = 256 from rfl]; omega
    · rw [bnum2, show (256 : Int) ^ ([a, b] : List Int).length = 65536 from rfl]; omega
    · rw [bnum3]
      show (256 : Int) ^ 3 ≤ _ ∧ _ < 2 * (256 : Int) ^ 3
      rw [show (256 : Int) ^ 3 = 16777216 by decide +kernel]; omega
    · rw [bnum4]
      show (256 : Int) ^ 4 ≤ _ ∧ _ < 2 * (256 : Int) ^ 4
      rw [show (256 : Int) ^ 4 = 4294967296 by decide +kernel]; omega
  have k1 := (key c hc).2
  have k2 := (key d hd).1
  have l1 := hc.h1
  have l4 := hd.h4
  have e : ∀ n : Nat, 1 ≤ n → n < d.length → (2 : Int) * 256 ^ n ≤ 256 ^ d.length := fun n h1 h2 => by
    have hd4 : d.length = 2 ∨ d.length = 3 ∨ d.length = 4 := by omega
    have hn : n = 1 ∨ n = 2 ∨ n = 3 := by omega
    rcases hd4 with q | q | q <;> rcases hn with r | r | r <;> rw [q, r] <;> first | decide | (exfalso; omega)
  have := e _ l1 h
  omega
theorem bnum_lex {c d : List Int} (hc : Piece c) (hd : Piece d) (h : c.length = d.length) (hne : c ≠ d) : decide (bnum c < bnum d) = HT.lexLt c d := by
  obtain ⟨bc, c1, c4⟩ := hc
  obtain ⟨bd, d1, d4⟩ := hd
  match c, d, bc, c1, c4, bd, h, hne with
  | [a], [b], bc, _, _, bd, _, hne =>
    have h1 := bc a (by simp)
    have h2 := bd b (by simp)
    have n1 : a ≠ b := fun e => hne (by rw [e])
    rw [bnum1, bnum1]
    show _ = if a = b then false else decide (a < b)
    rw [if_neg n1]
    exact decide_eq_decide.mpr (by omega)
  | [a, a2], [b, b2], bc, _, _, bd, _, hne =>
    have h1 := bc a (by simp)
    have h2 := bd b (by simp)
    have h3 := bc a2 (by simp)
    have h4 := bd b2 (by simp)
    rw [bnum2, bnum2]
    show _ = if a = b then (if a2 = b2 then false else decide (a2 < b2)) else decide (a < b)
    by_cases n1 : a = b
    · rw [if_pos n1]
      have n2 : a2 ≠ b2 := fun e => hne (by rw [n1, e])
      rw [if_neg n2]
      exact decide_eq_decide.mpr (by omega)
    · rw [if_neg n1]
      exact decide_eq_decide.mpr (by omega)
  | [a, a2, a3], [b, b2, b3], bc, _, _, bd, _, hne =>
    have h1 := bc a (by simp)
    have h2 := bd b (by simp)
    have h3 := bc a2 (by simp)
    have h4 := bd b2 (by simp)
    have h5 := bc a3 (by simp)
    have h6 := bd b3 (by simp)
    rw [bnum3, bnum3]
    show _ = if a = b then (if a2 = b2 then (if a3 = b3 then false else decide (a3 < b3)) else decide (a2 < b2)) else decide (a < b)
    by_cases n1 : a = b
    · rw [if_pos n1]
      by_cases n2 : a2 = b2
      · rw [if_pos n2]
        have n3 : a3 ≠ b3 := fun e => hne (by rw [n1, n2, e])
        rw [if_neg n3]
        exact decide_eq_decide.mpr (by omega)
      · rw [if_neg n2]
        exact decide_eq_decide.mpr (by omega)
    · rw [if_neg n1]
      exact decide_eq_decide.mpr (by omega)
  | [a, a2, a3, a4], [b, b2, b3, b4], bc, _, _, bd, _, hne =>
    have h1 := bc a (by simp)
    have h2 := bd b (by simp)
    have h3 := bc a2 (by simp)
    have h4 := bd b2 (by simp)
    have h5 := bc a3 (by simp)
    have h6 := bd b3 (by simp)
    have h7 := bc a4 (by simp)
    have h8 := bd b4 (by simp)
    rw [bnum4, bnum4]
    show _ = if a = b then (if a2 = b2 then (if a3 = b3 then (if a4 = b4 then false else decide (a4 < b4)) else decide (a3 < b3)) else decide (a2 < b2)) else decide (a < b)
    by_cases n1 : a = b
    · rw [if_pos n1]
      by_cases n2 : a2 = b2
      · rw [if_pos n2]
        by_cases n3 : a3 = b3
        · rw [if_pos n3]
          have n4 : a4 ≠ b4 := fun e => hne (by rw [n1, n2, n3, e])
          rw [if_neg n4]
          exact decide_eq_decide.mpr (by omega)
        · rw [if_neg n3]
          exact decide_eq_decide.mpr (by omega)
      · rw [if_neg n2]
        exact decide_eq_decide.mpr (by omega)
    · rw [if_neg n1]
      exact decide_eq_decide.mpr (by omega)
theorem lex_nums : ∀ {cs ds : List (List Int)}, (∀ c ∈ cs, Piece c) → (∀ d ∈ ds, Piece d) → HT.lexLt (cs.map bnum) (ds.map bnum) = lessP cs ds
  | [], [], _, _ => rfl
  | [], _ :: _, _, _ => rfl
  | _ :: _, [], _, _ => rfl
  | c :: cs, d :: ds, h1, h2 => by
    have pc := h1 c (List.mem_cons_self ..)
    have pd := h2 d (List.mem_cons_self ..)
    have ih := lex_nums (cs := cs) (ds := ds) (fun x hx => h1 x (List.mem_cons_of_mem _ hx)) (fun x hx => h2 x (List.mem_cons_of_mem _ hx))
    show (if bnum c = bnum d then HT.lexLt (cs.map bnum) (ds.map bnum) else decide (bnum c < bnum d)) = if c = d then lessP cs ds else if c.length = d.length then HT.lexLt c d else decide (c.length < d.length)
    by_cases e : c = d
    · rw [if_pos e, if_pos (by rw [e]), ih]
    · rw [if_neg e, if_neg (fun q => e ((bnum_inj pc pd).mp q))]
      by_cases l : c.length = d.length
      · rw [if_pos l, bnum_lex pc pd l e]
      · rw [if_neg l]
        by_cases l2 : c.length < d.length
        · rw [decide_eq_true l2, decide_eq_true (bnum_len pc pd l2)]
        · have := bnum_len pd pc (by omega)
          rw [decide_eq_false l2, decide_eq_false (by omega)]
def sp_block_number (K : PySem.W.Frag) : Sp := sp1 fun a H Q => ∃ (p : Addr) (xs : List Int), a = .ref p ∧ SqL K H p (xs.map V.int) ∧ Q (.int (bnum xs)) H
def sp_block_size (K : PySem.W.Frag) : Sp := sp1 fun a H Q => ∃ n : Int, a = .int n ∧ Q (.int (bsize n)) H
def sp_is_block (K : PySem.W.Frag) : Sp := sp1 fun a H Q => ∃ n : Int, a = .int n ∧ Q (.bl (decide (0 < bsize n))) H
def sp_block_bytes (K : PySem.W.Frag) : Sp := sp1 fun a H Q => ∃ n : Int, a = .int n ∧ 0 < bsize n ∧ ∀ (p : Addr) (H' : Hp), H p = none → Same H H' → H' p = some (.lst ((bbytes n).map V.int)) → Q (.ref p) H'
def sp_split (K : PySem.W.Frag) : Sp := sp1 fun a H Q => ∃ (p : Addr) (xs : List Int), a = .ref p ∧ SqL K H p (xs.map V.int) ∧ xs.length ≤ 100000 ∧ ∀ (q : Addr) (H' : Hp), H q = none → Same H H' → H' q = some (.tup ((nums xs).map V.int)) → Q (.ref q) H'
theorem bsize_le (n : Int) : 0 ≤ bsize n ∧ bsize n ≤ 4 := by
  unfold bsize
  repeat' split
  all_goals omega
theorem bbytes_len (n : Int) : (bbytes n).length ≤ 4 := by
  unfold bbytes
  repeat' split
  all_goals simp
theorem range4 {n : Int} (h0 : 0 ≤ n) (h1 : n ≤ 1000000) : RgC 0 n 4 ((n.toNat + 3) / 4) := by
  have e : Builtin.Range.rangeSize 0 n 4 = (((n.toNat + 3) / 4 : Nat) : Int) := by
    rw [PyProof.Rows.rangeSize_pos (by decide) h0]
    omega
  refine ⟨by decide, by decide, ?_, e⟩
  unfold Builtin.Range.small
  rw [e]
  simp only [Builtin.Range.rangeFitsLong, Bool.and_eq_true, Bool.or_eq_true, decide_eq_true_eq, beq_iff_eq, show ((4 : Int) > 0) by decide, if_true]
  omega
theorem cut_chunk (xs : List Int) (i : Nat) : cutV (xs.map V.int) (some (0 + (i : Nat) * 4)) (some (0 + (i : Nat) * 4 + 4)) = ((xs.drop (4 * i)).take 4).map V.int := by
  unfold cutV
  have e1 : (0 + ((i : Nat) : Int) * 4) = ((4 * i : Nat) : Int) := by omega
  have e2 : (0 + ((i : Nat) : Int) * 4 + 4) = ((4 * i + 4 : Nat) : Int) := by omega
  rw [e2, e1, HT.sIx_nat, HT.sIx_nat, List.length_map, List.map_take, List.map_drop]
  by_cases h : 4 * i ≤ xs.length
  · rw [Nat.min_eq_left h]
    by_cases h2 : 4 * i + 4 ≤ xs.length
    · rw [Nat.min_eq_left h2, show 4 * i + 4 - 4 * i = 4 by omega]
    · rw [Nat.min_eq_right (by omega)]
      rw [List.take_of_length_le (by simp), List.take_of_length_le (by simp; omega)]
  · rw [Nat.min_eq_right (by omega), Nat.min_eq_right (by omega)]
    rw [List.drop_eq_nil_of_le (by simp), List.drop_eq_nil_of_le (by simp; omega)]
    simp
theorem bbytes_length {n : Int} (h : 0 < bsize n) : (bbytes n).length = (bsize n).toNat := by
  have h4 := (bsize_le n).2
  unfold bbytes
  by_cases e1 : bsize n = 1
  · rw [if_pos e1, e1]; rfl
  · rw [if_neg e1]
    by_cases e2 : bsize n = 2
    · rw [if_pos e2, e2]; rfl
    · rw [if_neg e2]
      by_cases e3 : bsize n = 3
      · rw [if_pos e3, e3]; rfl
      · rw [if_neg e3]
        have e4 : bsize n = 4 := by omega
        rw [if_pos e4, e4]; rfl
theorem byte_at {n : Int} {i : Nat} (h : 0 < bsize n) (hi : i < (bsize n - 0).toNat) : n / 2 ^ (8 * (0 + ((bsize n - 0).toNat : Int) - 1 + (i : Int) * -1)).toNat % 2 ^ 8 = (bbytes n).getD i 0 := by
  have h4 := (bsize_le n).2
  unfold bbytes
  by_cases e1 : bsize n = 1
  · rw [if_pos e1]
    rw [e1] at hi ⊢
    have ei : i = 0 := by omega
    subst ei
    show n / 1 % 256 = n % 256
    omega
  · rw [if_neg e1]
    by_cases e2 : bsize n = 2
    · rw [if_pos e2]
      rw [e2] at hi ⊢
      have hi2 : i < 2 := by omega
      match i, hi2 with
      | 0, _ => rfl
      | 1, _ =>
        show n / 1 % 256 = n % 256
        omega
    · rw [if_neg e2]
      by_cases e3 : bsize n = 3
      · rw [if_pos e3]
        rw [e3] at hi ⊢
        have hi2 : i < 3 := by omega
        match i, hi2 with
        | 0, _ => rfl
        | 1, _ => rfl
        | 2, _ =>
          show n / 1 % 256 = n % 256
          omega
      · rw [if_neg e3]
        have e4 : bsize n = 4 := by omega
        rw [if_pos e4]
        rw [e4] at hi ⊢
        have hi2 : i < 4 := by omega
        match i, hi2 with
        | 0, _ => rfl
        | 1, _ => rfl
        | 2, _ => rfl
        | 3, _ =>
          show n / 1 % 256 = n % 256
          omega
theorem map_getD : ∀ (l : List Int), (List.range l.length).map (fun i => V.int (l.getD i 0)) = l.map V.int := fun l => by
  refine List.ext_getElem? fun i => ?_
  by_cases h : i < l.length
  · rw [List.getElem?_map, List.getElem?_range h, List.getElem?_map, List.getElem?_eq_getElem h]
    show some (V.int (l.getD i 0)) = some (V.int l[i])
    rw [List.getD_eq_getElem?_getD, List.getElem?_eq_getElem h]
    rfl
  · rw [List.getElem?_eq_none (by simp; omega), List.getElem?_eq_none (by simp; omega)]
theorem nums_range (xs : List Int) : (nums xs).map V.int = (List.range ((xs.length + 3) / 4)).map fun i => V.int (bnum ((xs.drop (4 * i)).take 4)) := by
  unfold nums
  rw [chunks_map, List.map_map, List.map_map]
  rfl
theorem nums_len (xs : List Int) : (nums xs).length = (xs.length + 3) / 4 := by
  unfold nums
  rw [List.length_map, chunks_len]
theorem flat_len : ∀ ns : List Int, (ns.flatMap bbytes).length ≤ 4 * ns.length
  | [] => Nat.zero_le _
  | n :: r => by
    have ih := flat_len r
    have := bbytes_len n
    show (bbytes n ++ r.flatMap bbytes).length ≤ 4 * (r.length + 1)
    rw [List.length_append]
    omega
theorem same_tup {K : PySem.W.Frag} {H H' : Hp} {a : Addr} {xs : List V} (e : Same H H') (h : SqT K H a xs) : SqT K H' a xs := by
  rcases h with (h | ⟨o, h⟩) | h
  · exact .inl (.inl (e _ _ h))
  · exact .inl (.inr ⟨o, e _ _ h⟩)
  · exact .inr h
theorem cut_chunk2 (xs : List Int) (i : Nat) : cutV (xs.map V.int) (some (4 * (0 + (i : Nat)))) (some (4 * (0 + (i : Nat)) + 4)) = ((xs.drop (4 * i)).take 4).map V.int := by
  have e : (4 * (0 + ((i : Nat) : Int))) = 0 + (i : Nat) * 4 := by omega
  rw [e]; exact cut_chunk xs i
theorem nums_at {xs : List Int} {i : Nat} (h : i < (xs.length + 3) / 4) : (nums xs)[i]? = some (bnum ((xs.drop (4 * i)).take 4)) := by
  rw [nums, List.getElem?_map, chunks_get xs i h]; rfl
theorem nums_get {xs : List Int} {i : Nat} (h : i < (xs.length + 3) / 4) : atI ((nums xs).map V.int) (0 + (i : Nat)) = some (.int (bnum ((xs.drop (4 * i)).take 4))) :=
  at_of (j := i) (by omega) (by rw [List.getElem?_map, nums_at h]; rfl)
theorem chunk_piece {xs : List Int} (hb : isB xs) {i : Nat} (h : i < (xs.length + 3) / 4) : Piece ((xs.drop (4 * i)).take 4) :=
  chunks_piece xs hb _ (List.mem_of_getElem? (chunks_get xs i h))
theorem nums_pos {xs : List Int} (hb : isB xs) : ∀ n ∈ nums xs, 0 < bsize n := fun n hn => by
  obtain ⟨c, hc, rfl⟩ := List.mem_map.mp hn
  have q := chunks_piece xs hb c hc
  have := q.h1
  rw [bsize_bnum q]
  omega
theorem nums_len' (xs : List Int) : (nums xs).length = (xs.length + 3) / 4 := by rw [nums, List.length_map, chunks_len]
/-- blocks of one content -/
def isBlocks (ns : List Int) : Bool := decide (ns.length ≤ 255) && ns.dropLast.all (fun n => decide (bsize n = 4)) && (decide (ns = []) || decide (0 < bsize (ns.getLastD 0)))
theorem isBl_long {ns : List Int} (h : 255 < ns.length) : isBlocks ns = false := by
  unfold isBlocks
  rw [decide_eq_false (by omega)]
  rfl
theorem isBl_bad {ns : List Int} {x : Int} (h : x ∈ ns.dropLast) (h2 : ¬ bsize x = 4) : isBlocks ns = false := by
  unfold isBlocks
  have e : (ns.dropLast.all fun n => decide (bsize n = 4)) = false := by
    rw [List.all_eq_false]
    exact ⟨x, h, by rw [decide_eq_false h2]; exact Bool.false_ne_true⟩
  rw [e, Bool.and_false, Bool.false_and]
theorem isBl_end {ns : List Int} (h1 : ns.length ≤ 255) (h2 : ∀ n ∈ ns.dropLast, bsize n = 4) : isBlocks ns = (decide (ns = []) || decide (0 < bsize (ns.getLastD 0))) := by
  unfold isBlocks
  have e : (ns.dropLast.all fun n => decide (bsize n = 4)) = true := by
    rw [List.all_eq_true]
    exact fun n hn => decide_eq_true (h2 n hn)
  rw [e, decide_eq_true h1]
  rfl
theorem isBl_nums {xs : List Int} (hb : isB xs) (hl : xs.length ≤ 1020) : isBlocks (nums xs) = true := by
  have n1 := nums_len' xs
  rw [isBl_end (by omega) fun n hn => ?_]
  · by_cases e : nums xs = []
    · rw [decide_eq_true e]; rfl
    · have hm : (nums xs).getLastD 0 ∈ nums xs := by
        rw [List.getLastD_eq_getLast?, List.getLast?_eq_some_getLast e]
        exact List.getLast_mem e
      rw [decide_eq_true (nums_pos hb _ hm), Bool.or_true]
  · obtain ⟨i, hi⟩ := List.getElem?_of_mem hn
    rw [List.getElem?_dropLast] at hi
    split at hi
    · rename_i h2
      have h3 : i < (xs.length + 3) / 4 := by omega
      rw [nums_at h3] at hi
      rw [← Option.some.inj hi, bsize_bnum (chunk_piece hb h3), List.length_take, List.length_drop]
      omega
    · cases hi
theorem cut_last (xs : List V) : cutV xs none (some (-1)) = xs.dropLast := by
  unfold cutV
  have e : HT.sIx xs.length xs.length (some (-1)) = xs.length - 1 := by
    show (if (-1 : Int) < 0 then ((-1 : Int) + (xs.length : Int)).toNat else min (-1 : Int).toNat xs.length) = _
    rw [if_pos (by decide)]
    omega
  rw [e, HT.sIx_none, List.drop_zero, Nat.sub_zero, List.dropLast_eq_take]
theorem e_slA {K : PySem.W.Frag} {H : Hp} {Q : VK} {p : Addr} {xs : List V} {lo hi : Option Int} (h : SqT K H p xs) (q : ∀ r H', Same H H' → SqT K H' r (cutV xs lo hi) → Q (.ref r) H') : rSlA K (.ref p) lo hi H Q := by
  refine ⟨p, xs, rfl, h, fun w => q p H (Same.refl H) ?_, fun _ r hr => q r _ (same_new hr) (SqT.of upd_same)⟩
  have e : cutV xs lo hi = xs := by
    unfold cutV
    rw [w.1, w.2, List.drop_zero, Nat.sub_zero, List.take_length]
  rw [e]; exact h
theorem last_at {ns : List Int} (h : ¬ ns = []) : atI (ns.map V.int) (-1) = some (.int (ns.getLastD 0)) := by
  have e : ns = ns.dropLast ++ [ns.getLast h] := (List.dropLast_concat_getLast h).symm
  have e2 : ns.getLastD 0 = ns.getLast h := by
    rw [List.getLastD_eq_getLast?, List.getLast?_eq_some_getLast h]; rfl
  rw [e2]
  have e3 : ns.map V.int = ns.dropLast.map V.int ++ [V.int (ns.getLast h)] := by
    rw [← List.map_singleton, ← List.map_append, ← e]
  rw [e3]
  exact atI_last _ _
theorem map_dropLast (ns : List Int) : (ns.map V.int).dropLast = ns.dropLast.map V.int := (List.map_dropLast ..).symm
def sp_is_blocks (K : PySem.W.Frag) : Sp := sp1 fun a H Q => ∃ (p : Addr) (ns : List Int), a = .ref p ∧ SqE K H p (ns.map V.int) ∧ ∀ H', Same H H' → Q (.bl (isBlocks ns)) H'
def sp_law_integers (K : PySem.W.Frag) : Sp := sp1 fun a H Q => ∃ (p : Addr) (ns : List Int), a = .ref p ∧ SqE K H p (ns.map V.int) ∧ Q (.bl true) H
/-- a list of rows of ints -/
def Lol (H : Hp) (D : Addr) (cs : List (List Int)) : Prop := ∃ ps : List Addr, H D = some (.lst (ps.map V.ref)) ∧ ps.length = cs.length ∧ ∀ (i : Nat) (p : Addr) (c : List Int), ps[i]? = some p → cs[i]? = some c → H p = some (.lst (c.map V.int))
/-! ### digits -/
def dnum (b : Int) (ds : List Int) : Int := ds.foldl (fun n d => n * b + d) 0
def low (b : Int) : Nat → Int → List Int
  | 0, _ => []
  | n + 1, x => x % b :: low b n (x / b)
def isD (b : Int) (ds : List Int) : Prop := ∀ d ∈ ds, 0 ≤ d ∧ d < b
theorem low_len (b : Int) : ∀ (n : Nat) (x : Int), (low b n x).length = n
  | 0, _ => rfl
  | n + 1, x => congrArg (· + 1) (low_len b n (x / b))
theorem low_isD {b : Int} (hb : 0 < b) : ∀ (n : Nat) (x : Int), isD b (low b n x)
  | 0, _ => fun d h => by cases h
  | n + 1, x => fun d h => by
    rcases List.mem_cons.mp h with rfl | h
    · exact ⟨Int.emod_nonneg _ (by omega), Int.emod_lt_of_pos _ hb⟩
    · exact low_isD hb n _ d h
theorem dnum_snoc (b : Int) (es : List Int) (d : Int) : dnum b (es ++ [d]) = dnum b es * b + d := by
  unfold dnum
  rw [List.foldl_append]
  rfl
theorem pw_pos {b : Int} (hb : 0 < b) : ∀ n : Nat, 0 < b ^ n
  | 0 => by rw [Int.pow_zero]; decide
  | n + 1 => by rw [Int.pow_succ]; exact Int.mul_pos (pw_pos hb n) hb
theorem mod_split {b M x : Int} (hb : 0 < b) (hM : 0 < M) : (x / b % M) * b + x % b = x % (M * b) := by
  have h1 := Int.mul_ediv_add_emod x b
  have h2 := Int.mul_ediv_add_emod (x / b) M
  have l0 := Int.emod_nonneg (x / b) (show M ≠ 0 by omega)
  have l1 := Int.emod_lt_of_pos (x / b) hM
  have k0 := Int.emod_nonneg x (show b ≠ 0 by omega)
  have k1 := Int.emod_lt_of_pos x hb
  generalize hx : x % b = r at *
  generalize hy : x / b % M = r2 at *
  generalize x / b = q at *
  generalize q / M = q2 at *
  have e : x = (r2 * b + r) + M * b * q2 := by grind
  have lo : 0 ≤ r2 * b := Int.mul_nonneg l0 (by omega)
  have hi : r2 * b ≤ (M - 1) * b := Int.mul_le_mul_of_nonneg_right (by omega) (by omega)
  have hi2 : (M - 1) * b = M * b - b := by grind
  rw [e, Int.add_mul_emod_self_left, Int.emod_eq_of_lt (by omega) (by omega)]
theorem dnum_low {b : Int} (hb : 0 < b) : ∀ (n : Nat) (x : Int), dnum b (low b n x).reverse = x % b ^ n
  | 0, x => by rw [Int.pow_zero, Int.emod_one]; rfl
  | n + 1, x => by
    show dnum b (x % b :: low b n (x / b)).reverse = _
    rw [List.reverse_cons, dnum_snoc, dnum_low hb n, Int.pow_succ, mod_split hb (pw_pos hb n)]
theorem low_rev {b : Int} (hb : 0 < b) : ∀ (es : List Int), isD b es → low b es.length (dnum b es.reverse) = es
  | [], _ => rfl
  | d :: es, h => by
    have hd := h d (List.mem_cons_self ..)
    have ih := low_rev hb es fun x hx => h x (List.mem_cons_of_mem _ hx)
    rw [List.reverse_cons, dnum_snoc]
    show (dnum b es.reverse * b + d) % b :: low b es.length ((dnum b es.reverse * b + d) / b) = _
    have e1 : (dnum b es.reverse * b + d) % b = d := by
      rw [Int.add_comm, Int.add_mul_emod_self_right, Int.emod_eq_of_lt hd.1 hd.2]
    have e2 : (dnum b es.reverse * b + d) / b = dnum b es.reverse := by
      rw [Int.add_comm, Int.add_mul_ediv_right _ _ (by omega), Int.ediv_eq_zero_of_lt hd.1 hd.2, Int.zero_add]
    rw [e1, e2, ih]
theorem isD_rev {b : Int} {ds : List Int} (h : isD b ds) : isD b ds.reverse := fun d hd => h d (List.mem_reverse.mp hd)
theorem low_dnum {b : Int} (hb : 0 < b) {ds : List Int} (h : isD b ds) : low b ds.length (dnum b ds) = ds.reverse := by
  have := low_rev hb ds.reverse (isD_rev h)
  rw [List.reverse_reverse, List.length_reverse] at this
  exact this
theorem dnum_lt {b : Int} (hb : 0 < b) {ds : List Int} (h : isD b ds) : 0 ≤ dnum b ds ∧ dnum b ds % b ^ ds.length = dnum b ds := by
  have := dnum_low hb ds.length (dnum b ds)
  rw [low_dnum hb h, List.reverse_reverse] at this
  have p := pw_pos hb ds.length
  exact ⟨by rw [this]; exact Int.emod_nonneg _ (by omega), this.symm⟩
theorem low_mod {b : Int} (hb : 0 < b) (n : Nat) (x : Int) : low b n (x % b ^ n) = low b n x := by
  have h := low_rev hb (low b n x) (low_isD hb n x)
  rw [low_len, dnum_low hb] at h
  exact h
theorem low_cg {b : Int} (hb : 0 < b) (n : Nat) {x y q : Int} (h : x = y + b ^ n * q) : low b n x = low b n y := by
  rw [← low_mod hb n x, ← low_mod hb n y, h, Int.add_mul_emod_self_left]
theorem dnum_inj {b : Int} (hb : 0 < b) {ds es : List Int} (h1 : isD b ds) (h2 : isD b es) (hl : ds.length = es.length) (h : dnum b ds = dnum b es) : ds = es := by
  have e1 := low_dnum hb h1
  have e2 := low_dnum hb h2
  rw [h, hl, e2] at e1
  exact (List.reverse_inj.mp e1).symm
/-! ### the mixing -/
def uns : List Int := [1, 5, 7, 13, 17, 19, 23, 25, 29, 31, 35, 37, 41, 43, 47, 49, 53, 59, 61, 65]
def fac (b x : Int) : Int := if b = 256 then 2 * x + 1 else 66 * (x / 20) + uns.getD (x % 20).toNat 0
def mst (b f k : Int) (ds : List Int) : List Int := low b ds.length (dnum b ds * f + k)
def Base (b : Int) : Prop := b = 66 ∨ b = 256
theorem Base.pos {b : Int} (h : Base b) : 0 < b := by
  rcases h with rfl | rfl <;> decide
theorem uns_cop : ∀ u ∈ uns, 0 < u ∧ Nat.gcd 66 u.toNat = 1 := by decide
theorem uns_get {x : Int} : uns.getD (x % 20).toNat 0 ∈ uns := by
  have h0 := Int.emod_nonneg x (show (20 : Int) ≠ 0 by decide)
  have h1 := Int.emod_lt_of_pos x (show (0 : Int) < 20 by decide)
  have hl : (x % 20).toNat < uns.length := by show _ < 20; omega
  rw [List.getD_eq_getElem?_getD, List.getElem?_eq_getElem hl]
  exact List.getElem_mem hl
theorem fac_cop {b x : Int} (hb : Base b) (hx : 0 ≤ x) : 0 < fac b x ∧ ∀ n : Nat, Nat.gcd (b ^ n).toNat (fac b x).toNat = 1 := by
  rcases hb with rfl | rfl
  · have hu := uns_cop _ (uns_get (x := x))
    have h2 : 0 ≤ x / 20 := Int.ediv_nonneg hx (by decide)
    have e : fac 66 x = 66 * (x / 20) + uns.getD (x % 20).toNat 0 := if_neg (by decide)
    generalize uns.getD (x % 20).toNat 0 = u at *
    refine ⟨by omega, fun n => ?_⟩
    have e2 : (fac 66 x).toNat = 66 * (x / 20).toNat + u.toNat := by omega
    have e3 : ((66 : Int) ^ n).toNat = 66 ^ n := by
      have : ((66 : Int) ^ n) = ((66 ^ n : Nat) : Int) := by rw [Int.natCast_pow]; rfl
      rw [this]; rfl
    rw [e2, e3]
    refine Nat.Coprime.pow_left n ?_
    show Nat.gcd 66 _ = 1
    rw [Nat.gcd_mul_left_add_right]
    exact hu.2
  · have e : fac 256 x = 2 * x + 1 := if_pos rfl
    refine ⟨by omega, fun n => ?_⟩
    have e2 : (fac 256 x).toNat = 2 * x.toNat + 1 := by omega
    have e3 : ((256 : Int) ^ n).toNat = (2 ^ 8) ^ n := by
      have : ((256 : Int) ^ n) = ((256 ^ n : Nat) : Int) := by rw [Int.natCast_pow]; rfl
      rw [this]; rfl
    rw [e2, e3]
    refine Nat.Coprime.pow_left n (Nat.Coprime.pow_left 8 ?_)
    show Nat.gcd 2 _ = 1
    rw [Nat.gcd_mul_left_add_right]
    rfl
theorem mst_len (b f k : Int) (ds : List Int) : (mst b f k ds).length = ds.length := low_len ..
theorem mst_isD {b : Int} (hb : 0 < b) (f k : Int) (ds : List Int) : isD b (mst b f k ds) := low_isD hb _ _
theorem mst_inj {b f k : Int} (hb : 0 < b) {ds es : List Int} (h1 : isD b ds) (h2 : isD b es) (hl : ds.length = es.length) (hf : 0 < f) (hc : Nat.gcd (b ^ ds.length).toNat f.toNat = 1) (h : mst b f k ds = mst b f k es) : ds = es := by
  have p := pw_pos hb ds.length
  have e := congrArg (fun l : List Int => dnum b l.reverse) h
  unfold mst at e
  rw [dnum_low hb, dnum_low hb, ← hl] at e
  have d1 := dnum_lt hb h1
  have d2 := dnum_lt hb h2
  rw [← hl] at d2
  refine dnum_inj hb h1 h2 hl ?_
  have dv : b ^ ds.length ∣ (dnum b ds * f + k) - (dnum b es * f + k) := Int.dvd_of_emod_eq_zero (Int.emod_eq_emod_iff_emod_sub_eq_zero.mp e)
  have dv2 : b ^ ds.length ∣ (dnum b ds - dnum b es) * f := by
    have : (dnum b ds * f + k) - (dnum b es * f + k) = (dnum b ds - dnum b es) * f := by grind
    rw [← this]; exact dv
  have dv3 : (b ^ ds.length).natAbs ∣ (dnum b ds - dnum b es).natAbs := by
    have h3 := Int.natAbs_dvd_natAbs.mpr dv2
    rw [Int.natAbs_mul] at h3
    refine Nat.Coprime.dvd_of_dvd_mul_right (k := (b ^ ds.length).natAbs) (n := f.natAbs) ?_ h3
    have q1 : (b ^ ds.length).natAbs = (b ^ ds.length).toNat := by omega
    have q2 : f.natAbs = f.toNat := by omega
    rw [q1, q2]; exact hc
  have dv4 := Int.natAbs_dvd_natAbs.mp dv3
  have e5 := Int.emod_eq_emod_iff_emod_sub_eq_zero.mpr (Int.emod_eq_zero_of_dvd dv4)
  rw [d1.2, d2.2] at e5
  exact e5
/-- one step back -/
def ust (b g k : Int) (ds : List Int) : List Int := (low b ds.length ((dnum b ds.reverse - k) * g)).reverse
theorem ust_len (b g k : Int) (ds : List Int) : (ust b g k ds).length = ds.length := by
  unfold ust
  rw [List.length_reverse, low_len]
theorem ust_isD {b : Int} (hb : 0 < b) (g k : Int) (ds : List Int) : isD b (ust b g k ds) := isD_rev (low_isD hb _ _)
theorem mst_ust {b f g k q : Int} (hb : 0 < b) {ds : List Int} (h : isD b ds) (hg : f * g = 1 + b ^ ds.length * q) : mst b f k (ust b g k ds) = ds := by
  unfold mst
  rw [ust_len]
  have e := dnum_low hb ds.length ((dnum b ds.reverse - k) * g)
  show low b ds.length (dnum b (low b ds.length _).reverse * f + k) = ds
  rw [e]
  have dm := Int.mul_ediv_add_emod ((dnum b ds.reverse - k) * g) (b ^ ds.length)
  generalize (dnum b ds.reverse - k) * g % b ^ ds.length = r at *
  generalize (dnum b ds.reverse - k) * g / b ^ ds.length = R at *
  have key : r * f + k = dnum b ds.reverse + b ^ ds.length * ((dnum b ds.reverse - k) * q - R * f) := by grind
  rw [low_cg hb _ key]
  have := low_dnum hb (isD_rev h)
  rw [List.length_reverse, List.reverse_reverse] at this
  exact this
def stp (b : Int) (ks : List Int) (t : Nat) (ds : List Int) : List Int := mst b (fac b (ks.getD (2 * t) 0)) (ks.getD (2 * t + 1) 0) ds
def mixN (b : Int) (ks : List Int) (ds : List Int) : Nat → List Int
  | 0 => ds
  | i + 1 => stp b ks i (mixN b ks ds i)
def mix (b : Int) (ks ds : List Int) : List Int := mixN b ks ds 4
def mixF (b : Int) (ks : List Int) : Nat → List Int → List Int
  | 0, ds => ds
  | i + 1, ds => mixF b ks i (stp b ks (3 - i) ds)
theorem mixF_4 (b : Int) (ks ds : List Int) : mixF b ks 4 ds = mix b ks ds := rfl
theorem mixN_ok {b : Int} (hb : Base b) (ks : List Int) {ds : List Int} (h : isD b ds) : ∀ i, isD b (mixN b ks ds i) ∧ (mixN b ks ds i).length = ds.length
  | 0 => ⟨h, rfl⟩
  | i + 1 => ⟨mst_isD hb.pos _ _ _, (mst_len ..).trans (mixN_ok hb ks h i).2⟩
def IsKey (ks : List Int) : Prop := ks.length = 8 ∧ ∀ k ∈ ks, 0 ≤ k ∧ k ≤ 4294967295
theorem IsKey.nn {ks : List Int} (h : IsKey ks) (i : Nat) : 0 ≤ ks.getD i 0 := by
  rw [List.getD_eq_getElem?_getD]
  by_cases hi : i < ks.length
  · rw [List.getElem?_eq_getElem hi]
    exact (h.2 _ (List.getElem_mem hi)).1
  · rw [List.getElem?_eq_none (by omega)]
    exact Int.le_refl 0
theorem stp_inj {b : Int} (hb : Base b) {ks : List Int} (hk : IsKey ks) (t : Nat) {ds es : List Int} (h1 : isD b ds) (h2 : isD b es) (hl : ds.length = es.length) (h : stp b ks t ds = stp b ks t es) : ds = es :=
  mst_inj hb.pos h1 h2 hl (fac_cop hb (hk.nn _)).1 ((fac_cop hb (hk.nn _)).2 _) h
theorem mix_inj {b : Int} (hb : Base b) {ks : List Int} (hk : IsKey ks) {ds es : List Int} (h1 : isD b ds) (h2 : isD b es) (hl : ds.length = es.length) (h : mix b ks ds = mix b ks es) : ds = es := by
  have go : ∀ i, mixN b ks ds i = mixN b ks es i → ds = es := by
    intro i
    induction i with
    | zero => exact fun e => e
    | succ i ih =>
      intro e
      have a1 := mixN_ok hb ks h1 i
      have a2 := mixN_ok hb ks h2 i
      exact ih (stp_inj hb hk i a1.1 a2.1 (by rw [a1.2, a2.2, hl]) e)
  exact go 4 h
theorem mix_isD {b : Int} (hb : Base b) (ks : List Int) {ds : List Int} (h : isD b ds) : isD b (mix b ks ds) := (mixN_ok hb ks h 4).1
theorem mix_len {b : Int} (hb : Base b) (ks : List Int) {ds : List Int} (h : isD b ds) : (mix b ks ds).length = ds.length := (mixN_ok hb ks h 4).2
/-- the loop of the inverse: one turn -/
structure Eu (n w : Int) (la re lp p : Int) : Prop where
  a : ∃ x y : Nat, la = x ∧ re = y ∧ Nat.gcd x y = 1 ∧ 1 ≤ x
  r : ∃ q, p * n = re + w * q
  l : ∃ q, lp * n = la + w * q
  b : (lp.natAbs : Int) * re + (p.natAbs : Int) * la ≤ w
  m : 1 < la ∧ la ≤ w ∧ 0 ≤ re ∧ re < la
theorem Eu.step {n w la re lp p : Int} (h : Eu n w la re lp p) (hr : 1 < re) : Eu n w re (la - la / re * re) p (lp - la / re * p) ∧ 0 ≤ la - la / re * re ∧ la - la / re * re < re := by
  obtain ⟨x, y, rfl, rfl, hg, hx⟩ := h.a
  obtain ⟨q1, h1⟩ := h.r
  obtain ⟨q2, h2⟩ := h.l
  have e : ((x : Int) - (x : Int) / (y : Int) * (y : Int)) = ((x % y : Nat) : Int) := by
    have := Int.mul_ediv_add_emod (x : Int) (y : Int)
    rw [Int.natCast_emod]
    rw [Int.mul_comm] at this
    omega
  have hy : 0 < y := by omega
  have hlt := Nat.mod_lt x hy
  have hm := h.m
  refine ⟨⟨⟨y, x % y, rfl, e, ?_, by omega⟩, ⟨q2 - (x : Int) / y * q1, ?_⟩, ⟨q1, h1⟩, ?_, by omega, by omega, by omega, by omega⟩, by omega, by omega⟩
  · rw [Nat.gcd_comm, Nat.gcd_comm] at hg
    rw [Nat.gcd_comm, ← Nat.gcd_rec, Nat.gcd_comm]
    exact hg
  · generalize (x : Int) / (y : Int) = t at *
    grind
  · have hb := h.b
    have ht : 0 ≤ (x : Int) / (y : Int) := Int.ediv_nonneg (by omega) (by omega)
    have k1 : ((lp - (x : Int) / (y : Int) * p).natAbs : Int) ≤ (lp.natAbs : Int) + (x : Int) / (y : Int) * (p.natAbs : Int) := by
      have a1 := Int.natAbs_sub_le lp ((x : Int) / (y : Int) * p)
      rw [Int.natAbs_mul] at a1
      have a2 : (((x : Int) / (y : Int)).natAbs : Int) = (x : Int) / (y : Int) := Int.natAbs_of_nonneg ht
      have a3 : (((lp.natAbs + ((x : Int) / (y : Int)).natAbs * p.natAbs : Nat)) : Int) = (lp.natAbs : Int) + (x : Int) / (y : Int) * (p.natAbs : Int) := by
        rw [Int.natCast_add, Int.natCast_mul, a2]
      omega
    have k2 := Int.mul_le_mul_of_nonneg_right k1 (show (0 : Int) ≤ (y : Int) by omega)
    generalize (x : Int) / (y : Int) = t at *
    have k3 : (p.natAbs : Int) * ((x : Int) - t * y) + ((lp.natAbs : Int) + t * (p.natAbs : Int)) * y = (lp.natAbs : Int) * y + (p.natAbs : Int) * x := by grind
    omega
theorem Eu.start {n w : Int} (hn : 0 < n) (hw : 1 < w) (hg : Nat.gcd w.toNat n.toNat = 1) : Eu n w w (n % w) 0 1 := by
  refine ⟨⟨w.toNat, n.toNat % w.toNat, by omega, ?_, ?_, by omega⟩, ⟨n / w, ?_⟩, ⟨-1, ?_⟩, ?_, hw, Int.le_refl _, Int.emod_nonneg _ (by omega), Int.emod_lt_of_pos _ (by omega)⟩
  · rw [Int.natCast_emod]
    rw [Int.toNat_of_nonneg (by omega), Int.toNat_of_nonneg (by omega)]
  · rw [Nat.gcd_comm, ← Nat.gcd_rec]
    exact hg
  · have := Int.mul_ediv_add_emod n w
    omega
  · omega
  · show ((0 : Nat) : Int) * _ + ((1 : Nat) : Int) * w ≤ w
    omega
theorem Eu.fin {n w la re lp p : Int} (h : Eu n w la re lp p) (hr : ¬ 1 < re) : ∃ q, n * p = 1 + w * q := by
  obtain ⟨x, y, rfl, rfl, hg, hx⟩ := h.a
  obtain ⟨q1, h1⟩ := h.r
  have hm := h.m
  have : y = 0 ∨ y = 1 := by omega
  rcases this with rfl | rfl
  · rw [Nat.gcd_zero_right] at hg
    omega
  · exact ⟨q1, by rw [Int.mul_comm]; exact h1⟩
theorem abs_le_of_mul {a b w : Int} (h : 0 ≤ a) (hb : 1 ≤ b) (hm : a * b ≤ w) : a ≤ w := by
  have := Int.mul_le_mul_of_nonneg_left hb h
  rw [Int.mul_one] at this
  omega
theorem Eu.abs {n w la re lp p : Int} (h : Eu n w la re lp p) : (p.natAbs : Int) ≤ w := by
  have hb := h.b
  have hm := h.m
  have k1 := Int.mul_nonneg (show (0 : Int) ≤ (lp.natAbs : Int) by omega) hm.2.2.1
  exact abs_le_of_mul (by omega) (show 1 ≤ la by omega) (by omega)
theorem fac_lt {n x : Int} (hn : Base n) (h0 : 0 ≤ x) (h1 : x < 4294967296) : 0 < fac n x ∧ fac n x < 18446744073709551616 := by
  refine ⟨(fac_cop hn h0).1, ?_⟩
  unfold fac
  split
  · omega
  · have hu : ∀ u ∈ uns, u < 66 := by decide
    have := hu _ (uns_get (x := x))
    omega
def shr (n : Int) : Nat → Int → Int
  | 0, x => x
  | i + 1, x => shr n i x / n
theorem shr_next (n : Int) : ∀ (i : Nat) (x : Int), shr n i (x / n) = shr n (i + 1) x
  | 0, _ => rfl
  | i + 1, x => congrArg (· / n) (shr_next n i x)
theorem low_snoc (n : Int) : ∀ (i : Nat) (x : Int), low n (i + 1) x = low n i x ++ [shr n i x % n]
  | 0, _ => rfl
  | i + 1, x => by
    show x % n :: low n (i + 1) (x / n) = x % n :: low n i (x / n) ++ [shr n (i + 1) x % n]
    rw [low_snoc n i, shr_next]
    rfl
theorem IsKey.lt {ks : List Int} (h : IsKey ks) (i : Nat) : ks.getD i 0 < 4294967296 := by
  rw [List.getD_eq_getElem?_getD]
  by_cases hi : i < ks.length
  · rw [List.getElem?_eq_getElem hi]
    have := (h.2 _ (List.getElem_mem hi)).2
    show ks[i] < _
    omega
  · rw [List.getElem?_eq_none (by omega)]
    decide
theorem pow_mono {n : Int} (hn : 1 ≤ n) : ∀ {a b : Nat}, a ≤ b → n ^ a ≤ n ^ b := by
  intro a b h
  induction b with
  | zero =>
    have : a = 0 := by omega
    rw [this]
    exact Int.le_refl _
  | succ b ih =>
    by_cases h2 : a = b + 1
    · rw [h2]
      exact Int.le_refl _
    · have i1 := ih (by omega)
      have p := pw_pos (b := n) (by omega) b
      rw [Int.pow_succ]
      have := Int.mul_le_mul_of_nonneg_left hn (show (0 : Int) ≤ n ^ b by omega)
      omega
theorem pow_bd {n : Int} {m : Nat} (hn : Base n) (h : (n = 66 ∧ m ≤ 27) ∨ m ≤ 4) (h1 : 1 ≤ m) : 1 < n ^ m ∧ n ^ m < 2 ^ 199 := by
  have hn2 : 66 ≤ n := by rcases hn with rfl | rfl <;> decide
  have l := pow_mono (n := n) (by omega) h1
  rw [Int.pow_succ, Int.pow_zero, Int.one_mul] at l
  refine ⟨by omega, ?_⟩
  rcases h with ⟨rfl, h⟩ | h
  · have u := pow_mono (n := 66) (by decide) h
    have : (66 : Int) ^ 27 < 2 ^ 199 := by decide +kernel
    omega
  · have u := pow_mono (n := n) (by omega) h
    have : n ^ 4 < 2 ^ 199 := by rcases hn with rfl | rfl <;> decide +kernel
    omega
theorem key_at {ks : List Int} (hk : ks.length = 8) {i : Nat} (hi : i < 8) {x : Int} (e : x = (i : Nat)) : L2.atI (ks.map L2.V.int) x = some (.int (ks.getD i 0)) := by
  subst e
  exact L2.at_of (j := i) (by omega) (by rw [List.getElem?_map, List.getD_eq_getElem?_getD, List.getElem?_eq_getElem (by omega)]; rfl)
/-- the state of the draws: the script's copy, a place, a number that is kept, a mixed number -/
structure Dw (K : PySem.W.Frag) (st sc : Addr) (ns : List Int) (H : Hp) : Prop where
  s : ∃ a b c : Int, 0 ≤ a ∧ 0 ≤ b ∧ (0 ≤ c ∧ c < 2147483647) ∧ H st = some (.lst [.ref sc, .int a, .int b, .int c])
  l : H sc = some (.lst (ns.map V.int))
  ne : sc ≠ st
  len : ns.length ≤ 63
theorem Dw.kp {K : PySem.W.Frag} {st sc : Addr} {ns : List Int} {H H' : Hp} (d : Dw K st sc ns H) (k : Kp st H H') (s : ∃ a b c : Int, 0 ≤ a ∧ 0 ≤ b ∧ (0 ≤ c ∧ c < 2147483647) ∧ H' st = some (.lst [.ref sc, .int a, .int b, .int c])) : Dw K st sc ns H' :=
  ⟨s, k _ _ d.ne d.l, d.ne, d.len⟩
theorem Dw.same {K : PySem.W.Frag} {st sc : Addr} {ns : List Int} {H H' : Hp} (d : Dw K st sc ns H) (k : Same H H') : Dw K st sc ns H' := by
  obtain ⟨a, b, c, h1, h2, hc, h3⟩ := d.s
  exact d.kp (Kp.of k) ⟨a, b, c, h1, h2, hc, k _ _ h3⟩
theorem Dw.free {K : PySem.W.Frag} {st sc p : Addr} {ns : List Int} {H : Hp} (d : Dw K st sc ns H) (h : H p = none) : p ≠ st := by
  obtain ⟨a, b, c, _, _, _, h3⟩ := d.s
  intro e
  rw [e, h3] at h
  cases h
theorem Dw.mut {K : PySem.W.Frag} {st sc p : Addr} {ns : List Int} {H0 H1 : Hp} {o : HO} (d0 : Dw K st sc ns H0) (d : Dw K st sc ns H1) (hp : H0 p = none) (k : Kp st H0 H1) : Dw K st sc ns (upd H1 p o) := by
  obtain ⟨a, b, c, h1, h2, hc, h3⟩ := d.s
  exact d0.kp (k.mut hp) ⟨a, b, c, h1, h2, hc, by rw [upd_ne (d0.free hp).symm]; exact h3⟩
theorem Dw.some {K : PySem.W.Frag} {st sc : Addr} {ns : List Int} {H : Hp} (d : Dw K st sc ns H) : ∃ o, H st = some o := by
  obtain ⟨a, b, c, h1, h2, hc, h3⟩ := d.s
  exact ⟨_, h3⟩
section
variable {K : PySem.W.Frag} {g : TG} {σ : L2.St} {te : TE} {vs : List Nat} {Q : VK} {Da st sc : Addr} {ns : List Int} {H0 : Hp}
/-- [e for k in range(..)], e with draws -/
theorem lc_dw {lo : Int} {n : Nat} (d0 : Dw K st sc ns H0) (hD : H0 Da = none) (hn : n ≤ 1000000) (Pe : V → Prop)
    (hs : ∀ (i : Nat) (H2 : Hp) (C : VK) (E : Hp → Prop), i < n → Kp st H0 H2 → Dw K st sc ns H2 → (∀ y H3, Kp st H2 H3 → Dw K st sc ns H3 → Pe y → C y H3) →
      g (.int (lo + i)) (wipe σ vs) H2 fun σ2 H2 => wipe σ2 vs = wipe σ vs ∧ tYes σ2 H2 fun b H3 => if b = true then te σ2 H3 C else E H3)
    (hd : ∀ (H : Hp) (xs : List V), Kp st H0 H → Dw K st sc ns H → H Da = some (.lst xs) → xs.length = n → (∀ x ∈ xs, Pe x) → Q (.ref Da) H) : LcB (Itr lo n) g tYes te vs σ Da H0 Q := by
  have nD := d0.free hD
  refine lc_rng (fun i H2 => Kp st H0 H2 ∧ Dw K st sc ns H2 ∧ ∃ xs : List V, H2 Da = some (.lst xs) ∧ xs.length = i ∧ ∀ x ∈ xs, Pe x) ⟨Kp.new hD, d0.same (same_new hD), [], upd_same, rfl, fun _ hy => by cases hy⟩ (fun i H2 hi p => ?_) (fun H2 p => ?_)
  · obtain ⟨k4, d4, xs, e4, l4, o4⟩ := p
    refine hs i H2 _ _ hi k4 d4 fun y H3 k5 d5 hy => ?_
    refine ⟨xs, k5 _ _ nD e4, Nat.lt_of_le_of_lt (Nat.le_of_lt (by omega : xs.length < 1000001)) (by decide), (k4.trans k5).mut hD, Dw.mut d0 d5 hD (k4.trans k5), xs ++ [y], upd_same, by simp [l4], fun z hz => ?_⟩
    rcases List.mem_append.mp hz with h | h
    · exact o4 z h
    · rw [List.mem_singleton.mp h]; exact hy
  · obtain ⟨k4, d4, xs, e4, l4, o4⟩ := p
    exact hd H2 xs k4 d4 e4 l4 o4
end
theorem ints_of {n : Nat} {P : Int → Prop} : ∀ {xs : List V}, (∀ x ∈ xs, ∃ i, x = .int i ∧ P i) → ∃ ks : List Int, xs = ks.map V.int ∧ ∀ k ∈ ks, P k
  | [], _ => ⟨[], rfl, fun _ h => by cases h⟩
  | x :: xs, h => by
    obtain ⟨i, rfl, hi⟩ := h x (List.mem_cons_self ..)
    obtain ⟨ks, rfl, hk⟩ := ints_of (n := n) (P := P) (xs := xs) fun y hy => h y (List.mem_cons_of_mem _ hy)
    refine ⟨i :: ks, rfl, fun k hk2 => ?_⟩
    rcases List.mem_cons.mp hk2 with rfl | h2
    · exact hi
    · exact hk k h2
def sp_law_draws (K : PySem.W.Frag) : Sp := sp1 fun a H Q => ∃ (sa : Addr) (ns : List Int), a = .ref sa ∧ SqL K H sa (ns.map V.int) ∧ ns.length ≤ 63 ∧ ∀ (st sc : Addr) (H' : Hp), H st = none → Same H H' → Dw K st sc ns H' → Q (.ref st) H'
def sp_law_draw (K : PySem.W.Frag) : Sp := sp2 fun a b H Q => ∃ (st sc : Addr) (ns : List Int) (n : Int), a = .ref st ∧ b = .int n ∧ Dw K st sc ns H ∧ 0 < n ∧ n < 2 ^ 60 ∧
  ∀ (d : Int) (H' : Hp), 0 ≤ d → d < n → Kp st H H' → Dw K st sc ns H' → Q (.int d) H'
def CHL : List Nat := [45,46,47,48,49,50,51,52,53,54,55,56,57,65,66,67,68,69,70,71,72,73,74,75,76,77,78,79,80,81,82,83,84,85,86,87,88,89,90,95,97,98,99,100,101,102,103,104,105,106,107,108,109,110,111,112,113,114,115,116,117,118,119,120,121,122]
def letr (d : Int) : Nat := CHL.getD d.toNat 0
def nmS (ds : List Int) : Str := ⟨(ds.map letr).toArray⟩
def Tail (t : Str) : Prop := t = Str.empty ∨ ∃ r : Str, t = Str.ofString "~" ++ r
theorem idx66 : ∀ k : Fin 66, Txt.index0 (Str.ofString "-./0123456789ABCDEFGHIJKLMNOPQRSTUVWXYZ_abcdefghijklmnopqrstuvwxyz~") ⟨#[CHL.getD k.val 0]⟩ = some k.val := by decide +kernel
theorem at66 : ∀ k : Fin 66, (Str.ofString "-./0123456789ABCDEFGHIJKLMNOPQRSTUVWXYZ_abcdefghijklmnopqrstuvwxyz~").cps.toList[k.val]? = some (CHL.getD k.val 0) := by decide +kernel
theorem no126 : ∀ k : Fin 66, CHL.getD k.val 0 ≠ 126 := by decide +kernel
theorem dig_fin {d : Int} (h : 0 ≤ d ∧ d < 66) : ∃ k : Fin 66, d = (k.val : Int) := ⟨⟨d.toNat, by omega⟩, by show d = (d.toNat : Int); omega⟩
theorem letr_index {d : Int} (h : 0 ≤ d ∧ d < 66) : ∃ k : Nat, d = (k : Int) ∧ Txt.index0 (Str.ofString "-./0123456789ABCDEFGHIJKLMNOPQRSTUVWXYZ_abcdefghijklmnopqrstuvwxyz~") ⟨#[letr d]⟩ = some k := by
  obtain ⟨k, rfl⟩ := dig_fin h
  exact ⟨k.val, rfl, idx66 k⟩
theorem letr_at {d : Int} (h : 0 ≤ d ∧ d < 66) : atI (Str.ofString "-./0123456789ABCDEFGHIJKLMNOPQRSTUVWXYZ_abcdefghijklmnopqrstuvwxyz~").cps.toList d = some (letr d) := by
  obtain ⟨k, rfl⟩ := dig_fin h
  exact atI_nat (at66 k)
theorem letr_ne {d : Int} (h : 0 ≤ d ∧ d < 66) : letr d ≠ 126 := by
  obtain ⟨k, rfl⟩ := dig_fin h
  exact no126 k
theorem nmS_tl (ds : List Int) : (nmS ds).cps.toList = ds.map letr := rfl
theorem nmS_len (ds : List Int) : (nmS ds).length = ds.length := by
  show (ds.map letr).toArray.size = _
  rw [List.size_toArray, List.length_map]
theorem nmS_free {ds : List Int} (h : isD 66 ds) : 126 ∉ (nmS ds).cps.toList := fun hm => by
  rw [nmS_tl] at hm
  obtain ⟨d, hd, e⟩ := List.mem_map.mp hm
  exact letr_ne (h d hd) e
theorem str_assoc (a b c : Str) : a ++ b ++ c = a ++ (b ++ c) := TL.ext_tl (by rw [TL.tl_append, TL.tl_append, TL.tl_append, TL.tl_append, List.append_assoc])
theorem app_empty (a : Str) : a ++ Str.empty = a := TL.ext_tl (by rw [TL.tl_append]; exact List.append_nil _)
theorem part_name {ds : List Int} {t : Str} (h : isD 66 ds) (ht : Tail t) : (Txt.partition (nmS ds ++ t) (Str.ofString "~")).1 = nmS ds := by
  have ey : TL.tl (Str.ofString "~") = [126] := by decide +kernel
  rcases ht with rfl | ⟨r, rfl⟩
  · rw [app_empty, TL.partition_none ey (nmS_free h)]
  · rw [← str_assoc, TL.partition_app ey (nmS_free h)]
theorem split_name {ds : List Int} {t : Str} (h : isD 66 ds) (ht : Tail t) : ∃ r, Txt.split (nmS ds ++ t) (Str.ofString "~") = nmS ds :: r := by
  have ey : TL.tl (Str.ofString "~") = [126] := by decide +kernel
  have e := TL.split_spl (nmS ds ++ t) (Str.ofString "~") (by rw [ey]; simp) (TL.kind_ok (by decide +kernel))
  have key : ∃ r, TL.spl [126] 0 [] (TL.tl (nmS ds ++ t)) = TL.tl (nmS ds) :: r := by
    rcases ht with rfl | ⟨r, rfl⟩
    · rw [app_empty, TL.spl_last1 (nmS_free h)]
      exact ⟨_, rfl⟩
    · rw [← str_assoc, TL.tl_append, TL.tl_append, ey, List.append_assoc, show [126] ++ TL.tl r = (126 :: [] ++ TL.tl r) from rfl, TL.spl_part1 (nmS_free h)]
      exact ⟨_, rfl⟩
  obtain ⟨r, hr⟩ := key
  rw [ey, hr] at e
  cases q : Txt.split (nmS ds ++ t) (Str.ofString "~") with
  | nil => rw [q] at e; cases e
  | cons x xs =>
    rw [q] at e
    have e1 := (List.cons.inj e).1
    exact ⟨xs, by rw [TL.ext_tl e1]⟩
theorem cut_name (a t : Str) : cutS (a ++ t) (some ((a.length : Nat) : Int)) none = t := by
  refine TL.ext_tl ?_
  unfold cutS
  show List.take _ (List.drop (HT.sIx (a ++ t).length 0 (some ((a.length : Nat) : Int))) (TL.tl (a ++ t))) = _
  have hl : (a ++ t).length = a.length + t.length := len_app a t
  rw [HT.sIx_nat, Nat.min_eq_left (by omega), TL.tl_append]
  have e1 : a.length = (TL.tl a).length := TL.len_tl a
  rw [e1, List.drop_left]
  refine List.take_of_length_le ?_
  show _ ≤ HT.sIx (a ++ t).length (a ++ t).length none - _
  have e2 : t.length = (TL.tl t).length := TL.len_tl t
  have e3 : HT.sIx (a ++ t).length (a ++ t).length none = (a ++ t).length := rfl
  rw [e3]
  omega
theorem nm_inj {ds es : List Int} (h1 : isD 66 ds) (h2 : isD 66 es) (h : nmS ds = nmS es) : ds = es := by
  have e : ds.map letr = es.map letr := congrArg (fun z : Str => z.cps.toList) h
  have inj : ∀ (a b : Int), 0 ≤ a ∧ a < 66 → 0 ≤ b ∧ b < 66 → letr a = letr b → a = b := fun a b ha hb q => by
    obtain ⟨k, rfl, e1⟩ := letr_index ha
    obtain ⟨j, rfl, e2⟩ := letr_index hb
    rw [q, e2] at e1
    cases e1
    rfl
  revert es
  induction ds with
  | nil =>
    intro es h2 _ e
    cases es with
    | nil => rfl
    | cons _ _ => cases e
  | cons a ds ih =>
    intro es h2 _ e
    cases es with
    | nil => cases e
    | cons b es =>
      have e1 := List.cons.inj e
      have x1 := inj a b (h1 a (List.mem_cons_self ..)) (h2 b (List.mem_cons_self ..)) e1.1
      have x2 := ih (fun x hx => h1 x (List.mem_cons_of_mem _ hx)) (fun x hx => h2 x (List.mem_cons_of_mem _ hx)) (TL.ext_tl (by show List.map letr ds = List.map letr es; exact e1.2)) e1.2
      rw [x1, x2]
theorem app_tail {a b t : Str} (h : a ++ t = b ++ t) : a = b := by
  have e := congrArg TL.tl h
  rw [TL.tl_append, TL.tl_append] at e
  exact TL.ext_tl (List.append_cancel_right e)
def oneS (d : Int) : Str := ⟨#[letr d]⟩
theorem joinL_nil : ∀ l : List (List Nat), TL.joinL [] l = l.flatten
  | [] => rfl
  | [p] => by simp [TL.joinL]
  | p :: q :: r => by
    show p ++ ([] ++ TL.joinL [] (q :: r)) = _
    rw [joinL_nil (q :: r)]
    rfl
theorem join_one (ds : List Int) : Txt.join (Str.ofString "") (ds.map oneS) = nmS ds := by
  refine TL.ext_tl ?_
  have ey : TL.tl (Str.ofString "") = [] := by decide +kernel
  rw [TL.join_eq, TL.tl_join, ey, joinL_nil, List.map_map]
  show (ds.map fun d => [letr d]).flatten = ds.map letr
  induction ds with
  | nil => rfl
  | cons d ds ih => exact congrArg (letr d :: ·) ih
theorem one_sum : ∀ ds : List Int, ((ds.map oneS).map (·.length)).sum = ds.length
  | [] => rfl
  | d :: ds => by
    have := one_sum ds
    show 1 + ((ds.map oneS).map (·.length)).sum = ds.length + 1
    omega
theorem uns_eq : ((List.range 65).filter fun i => decide (Nat.gcd (1 + i) 66 = 1)).map (fun i => V.int (1 + (i : Nat))) = uns.map V.int := by
  rfl
def cnt (k : Int) : Nat → Nat
  | 0 => 0
  | 1 => if k / 2 * 2 = k then 1 else 0
  | 2 => (if k / 2 * 2 = k then 1 else 0) + (if k / 3 * 3 = k then 1 else 0)
  | _ => (if k / 2 * 2 = k then 1 else 0) + (if k / 3 * 3 = k then 1 else 0) + (if k / 11 * 11 = k then 1 else 0)
theorem uns_eq2 : ((List.range 65).filter fun i => decide (cnt (1 + (i : Nat)) 3 = 0)).map (fun i => V.int (1 + (i : Nat))) = uns.map V.int := by
  rfl
theorem cnt1 (k : Int) : cnt k (0 + 1) = if k / 2 * 2 = k then 1 else 0 := rfl
theorem cnt2 (k : Int) : cnt k (1 + 1) = cnt k 1 + if k / 3 * 3 = k then 1 else 0 := rfl
theorem cnt3 (k : Int) : cnt k (2 + 1) = cnt k 2 + if k / 11 * 11 = k then 1 else 0 := rfl
theorem idx66b : ∀ k : Fin 66, Txt.index0 (Str.ofString "-./0123456789ABCDEFGHIJKLMNOPQRSTUVWXYZ_abcdefghijklmnopqrstuvwxyz") ⟨#[CHL.getD k.val 0]⟩ = some k.val := by decide +kernel
theorem at66b : ∀ k : Fin 66, (Str.ofString "-./0123456789ABCDEFGHIJKLMNOPQRSTUVWXYZ_abcdefghijklmnopqrstuvwxyz").cps.toList[k.val]? = some (CHL.getD k.val 0) := by decide +kernel
theorem letr_index2 {d : Int} (h : 0 ≤ d ∧ d < 66) : ∃ k : Nat, d = (k : Int) ∧ Txt.index0 (Str.ofString "-./0123456789ABCDEFGHIJKLMNOPQRSTUVWXYZ_abcdefghijklmnopqrstuvwxyz") ⟨#[letr d]⟩ = some k := by
  obtain ⟨k, rfl⟩ := dig_fin h
  exact ⟨k.val, rfl, idx66b k⟩
theorem letr_at2 {d : Int} (h : 0 ≤ d ∧ d < 66) : atI (Str.ofString "-./0123456789ABCDEFGHIJKLMNOPQRSTUVWXYZ_abcdefghijklmnopqrstuvwxyz").cps.toList d = some (letr d) := by
  obtain ⟨k, rfl⟩ := dig_fin h
  exact atI_nat (at66b k)
theorem strs_of {P : Int → Prop} : ∀ {xs : List V}, (∀ x ∈ xs, ∃ d, x = .str (oneS d) ∧ P d) → ∃ ds : List Int, xs = (ds.map oneS).map V.str ∧ ∀ d ∈ ds, P d
  | [], _ => ⟨[], rfl, fun _ h => by cases h⟩
  | x :: xs, h => by
    obtain ⟨i, rfl, hi⟩ := h x (List.mem_cons_self ..)
    obtain ⟨ks, rfl, hk⟩ := strs_of (P := P) (xs := xs) fun y hy => h y (List.mem_cons_of_mem _ hy)
    refine ⟨i :: ks, rfl, fun k hk2 => ?_⟩
    rcases List.mem_cons.mp hk2 with rfl | h2
    · exact hi
    · exact hk k h2
theorem nm_cons (e : Int) (l : List Int) : (⟨#[letr e]⟩ : Str) ++ nmS l = nmS (e :: l) := TL.ext_tl (by rw [TL.tl_append]; rfl)
theorem dnum_mod {b : Int} (es : List Int) {d : Int} (hb : 0 < b) (hd : 0 ≤ d ∧ d < b) : dnum b (es ++ [d]) % b = d ∧ dnum b (es ++ [d]) / b = dnum b es := by
  rw [dnum_snoc]
  constructor
  · rw [Int.add_comm, Int.add_mul_emod_self_right, Int.emod_eq_of_lt hd.1 hd.2]
  · rw [Int.add_comm, Int.add_mul_ediv_right _ _ (by omega), Int.ediv_eq_zero_of_lt hd.1 hd.2, Int.zero_add]
theorem num_len {i : Int} (h0 : 0 ≤ i) (h1 : i < 100000) : (Str.ofString (toString i)).length ≤ 5 := by
  have e : i = ((i.toNat : Nat) : Int) := by omega
  rw [e, TL.len_tl, TL.tl_num]
  exact TL.numL_len (by decide) (by omega)
theorem cut_at {es : List Int} {n m : Nat} (hn : es.length = n) (h : m < n) : ∃ e, e ∈ es ∧ es.take (n - m) = es.take (n - (m + 1)) ++ [e] ∧ es.drop (n - (m + 1)) = e :: es.drop (n - m) := by
  obtain ⟨i, hi⟩ : ∃ i, n - (m + 1) = i := ⟨_, rfl⟩
  have h2 : n - m = i + 1 := by omega
  have hl : i < es.length := by omega
  rw [hi, h2]
  refine ⟨es[i], List.getElem_mem hl, ?_, List.drop_eq_getElem_cons hl⟩
  rw [List.take_add_one, List.getElem?_eq_getElem hl]
  rfl
theorem abz5 : ∀ k : Fin 5, (Str.ofString "abz_-").cps.toList[k.val]? = some (CHL.getD (([40, 41, 65, 39, 0] : List Nat).getD k.val 0) 0) ∧ ([40, 41, 65, 39, 0] : List Nat).getD k.val 0 < 66 := by decide +kernel
theorem abz_at {d : Int} (h : 0 ≤ d ∧ d < 5) : ∃ f : Int, (0 ≤ f ∧ f < 66) ∧ atI (Str.ofString "abz_-").cps.toList d = some (letr f) := by
  obtain ⟨k, rfl⟩ : ∃ k : Fin 5, d = (k.val : Int) := ⟨⟨d.toNat, by omega⟩, by show d = (d.toNat : Int); omega⟩
  have := abz5 k
  exact ⟨((([40, 41, 65, 39, 0] : List Nat).getD k.val 0 : Nat) : Int), by omega, atI_nat this.1⟩
theorem lc_filt {K : PySem.W.Frag} {g : TG} {tt : TT} {te : TE} {vs : List Nat} {σ : L2.St} {Da : Addr} {H0 : Hp} {Q : VK} {lo : Int} {n : Nat} (hD : H0 Da = none) (hn : n ≤ 1000000) (p : Nat → Bool) (f : Nat → V)
    (hs : ∀ (i : Nat) (H2 : Hp) (C : VK) (E : Hp → Prop), i < n → Same H0 H2 → (p i = true → ∀ H3, Same H2 H3 → C (f i) H3) → (p i = false → ∀ H3, Same H2 H3 → E H3) →
      g (.int (lo + (i : Nat))) (wipe σ vs) H2 fun σ2 H2 => wipe σ2 vs = wipe σ vs ∧ tt σ2 H2 fun b H3 => if b = true then te σ2 H3 C else E H3)
    (hd : ∀ (H : Hp), Same H0 H → H Da = some (.lst (((List.range n).filter p).map f)) → Q (.ref Da) H) : LcB (Itr lo n) g tt te vs σ Da H0 Q := by
  refine lc_rng (fun i H2 => Same H0 H2 ∧ H2 Da = some (.lst (((List.range i).filter p).map f))) ⟨same_new hD, upd_same⟩ (fun i H2 hi q => ?_) (fun H2 q => hd H2 q.1 q.2)
  obtain ⟨s4, e4⟩ := q
  refine hs i H2 _ _ hi s4 (fun hp H3 s5 => ?_) (fun hp H3 s5 => ?_)
  · refine ⟨_, s5 _ _ e4, Nat.lt_of_le_of_lt (Nat.le_trans (by rw [List.length_map]; exact List.length_filter_le ..) (by rw [List.length_range]; omega : _ ≤ 1000000)) (by decide), Same.mut (s4.trans s5) hD, ?_⟩
    rw [upd_same, List.range_succ, List.filter_append, List.filter_cons_of_pos hp, List.map_append]
    rfl
  · refine ⟨s4.trans s5, ?_⟩
    rw [s5 _ _ e4, List.range_succ, List.filter_append, List.filter_cons_of_neg (by rw [hp]; exact Bool.false_ne_true), List.filter_nil, List.append_nil]
theorem e_tWhile {tc : TT} {tb : TS} {D : Ends} {σ : L2.St} {H : Hp} (q : ∃ W : Nat → L2.St → Hp → Prop, (∃ m, W m σ H) ∧ ∀ m σ H, W m σ H → tc σ H fun b H1 => if b = true then ∃ N : L2.St → Hp → Prop, (∀ σ' H', N σ' H' → ∃ m', m' < m ∧ W m' σ' H') ∧ tb { D with nx := N, ct := N, bk := D.nx } σ H1 else D.nx σ H1) : tWhile tc tb D σ H := q
theorem e_revR3 {tr : L2.St → Hp → (Int → Int → Int → Nat → Hp → Prop) → Prop} {σ : L2.St} {H : Hp} {R : It → Hp → Prop} (q : tr σ H fun a _ c n H1 => R (Itc (a + ((n : Int) - 1) * c) (-c) n) H1) : iRevR3 tr σ H R := q
theorem e_tRg3 {ta : TA} {σ : L2.St} {H : Hp} {Q : Int → Int → Int → Nat → Hp → Prop} (q : ta σ H fun vs H1 => ∃ i j k n, vs = [.int i, .int j, .int k] ∧ RgC i j k n ∧ Builtin.Range.handS_smallRev i j k = true ∧ Q i j k n H1) : tRg3 ta σ H Q := q
theorem e_par {i j : Nat} {ta : TA} {D : Ends} {σ : L2.St} {H : Hp} (q : ta σ H fun vs H1 => ∃ v w, vs = [v, w] ∧ D.nx ((σ.set i (some v)).set j (some w)) H1) : tPar i j ta D σ H := q
theorem e_tRevL {K : PySem.W.Frag} {t : TE} {σ : L2.St} {H : Hp} {Q : VK} (q : t σ H fun x H1 => ∃ p xs, x = .ref p ∧ SqL K H1 p xs ∧ ∀ l, H1 l = none → Q (.ref l) (upd H1 l (.lst xs.reverse))) : tRevL K t σ H Q := q
theorem lc_mapT {K : PySem.W.Frag} {g : TG} {te : TE} {vs : List Nat} {σ : L2.St} {Da a : Addr} {H0 : Hp} {Q : VK} {xs : List V} (hS : SqT K H0 a xs) (hD : H0 Da = none) (hn : xs.length ≤ 1000000) (f : V → V)
    (hs : ∀ (x : V) (H2 : Hp) (C : VK) (E : Hp → Prop), x ∈ xs → Same H0 H2 → (∀ H3, Same H2 H3 → C (f x) H3) →
      g x (wipe σ vs) H2 fun σ2 H2 => wipe σ2 vs = wipe σ vs ∧ tYes σ2 H2 fun b H3 => if b = true then te σ2 H3 C else E H3)
    (hd : ∀ (H : Hp), Same H0 H → H Da = some (.lst (xs.map f)) → Q (.ref Da) H) : LcB (Itt K a) g tYes te vs σ Da H0 Q := by
  refine lc_tup (K := K) (xs := xs) (fun i H2 => Same H0 H2 ∧ H2 Da = some (.lst ((xs.take i).map f))) ⟨same_new hD, upd_same⟩ (fun i H2 _ q => same_tup q.1 hS) (fun i x H2 hx q => ?_) (fun H2 q => ?_)
  · obtain ⟨s4, e4⟩ := q
    refine hs x H2 _ _ (List.mem_of_getElem? hx) s4 fun H3 s5 => ?_
    refine ⟨_, s5 _ _ e4, Nat.lt_of_le_of_lt (by rw [List.length_map, List.length_take]; omega : _ ≤ 1000000) (by decide), Same.mut (s4.trans s5) hD, ?_⟩
    rw [upd_same, List.take_add_one, hx, List.map_append]
    rfl
  · refine hd H2 q.1 ?_
    rw [q.2, List.take_length]
theorem mix_piece {ks c : List Int} (h : Piece c) : Piece (mix 256 ks c) := by
  have m1 := mix_isD (.inr rfl : Base 256) ks h.b
  have m2 := mix_len (.inr rfl : Base 256) ks h.b
  exact ⟨m1, by rw [m2]; exact h.h1, by rw [m2]; exact h.h4⟩
theorem flat_bnum : ∀ {cs : List (List Int)}, (∀ c ∈ cs, Piece c) → (cs.map bnum).flatMap bbytes = cs.flatten
  | [], _ => rfl
  | c :: cs, h => by
    show bbytes (bnum c) ++ (cs.map bnum).flatMap bbytes = c ++ cs.flatten
    rw [bbytes_bnum (h c (List.mem_cons_self ..)), flat_bnum fun d hd => h d (List.mem_cons_of_mem _ hd)]
theorem flat_map_map (f : List Int → List Int) (cs : List (List Int)) : (cs.map f).flatten = cs.flatMap f := rfl
theorem one_of {e : List Int} (h : e.length = 1) : ∃ a, e = [a] := by
  match e, h with
  | [a], _ => exact ⟨a, rfl⟩
theorem two_of {e : List Int} (h : e.length = 2) : ∃ a b, e = [a, b] := by
  match e, h with
  | [a, b], _ => exact ⟨a, b, rfl⟩
theorem three_of {e : List Int} (h : e.length = 3) : ∃ a b c, e = [a, b, c] := by
  match e, h with
  | [a, b, c], _ => exact ⟨a, b, c, rfl⟩
theorem four_of {e : List Int} (h : e.length = 4) : ∃ a b c d, e = [a, b, c, d] := by
  match e, h with
  | [a, b, c, d], _ => exact ⟨a, b, c, d, rfl⟩
theorem chunks_shape : ∀ (xs : List Int) (es : List (List Int)), es.map List.length = (chunks xs).map List.length → chunks es.flatten = es
  | [], es, h => by
    cases es with
    | nil => rfl
    | cons _ _ => cases h
  | [a], es, h => by
    match es, h with
    | [], h => cases h
    | _ :: _ :: _, h => simp [chunks] at h
    | [e], h =>
      obtain ⟨x, rfl⟩ := one_of (List.cons.inj h).1
      rfl
  | [a, b], es, h => by
    match es, h with
    | [], h => cases h
    | _ :: _ :: _, h => simp [chunks] at h
    | [e], h =>
      obtain ⟨x, y, rfl⟩ := two_of (List.cons.inj h).1
      rfl
  | [a, b, c], es, h => by
    match es, h with
    | [], h => cases h
    | _ :: _ :: _, h => simp [chunks] at h
    | [e], h =>
      obtain ⟨x, y, z, rfl⟩ := three_of (List.cons.inj h).1
      rfl
  | a :: b :: c :: d :: r, es, h => by
    cases es with
    | nil => cases h
    | cons e es =>
      have h2 := List.cons.inj h
      obtain ⟨x, y, z, w, rfl⟩ := four_of h2.1
      have ih := chunks_shape r es h2.2
      show [x, y, z, w] :: chunks es.flatten = _
      rw [ih]
theorem flat_len2 : ∀ {es cs : List (List Int)}, es.map List.length = cs.map List.length → es.flatten.length = cs.flatten.length
  | [], [], _ => rfl
  | [], _ :: _, h => by cases h
  | _ :: _, [], h => by cases h
  | e :: es, c :: cs, h => by
    have h2 := List.cons.inj h
    rw [List.flatten_cons, List.flatten_cons, List.length_append, List.length_append, h2.1, flat_len2 h2.2]
/-- bytes, piece by piece -/
def mixC (ks xs : List Int) : List Int := (chunks xs).flatMap (mix 256 ks)
theorem lg1 {i : Int} (h0 : 0 ≤ i) (h1 : i < 100000) : i.natAbs.log2 < 1920 := Nat.lt_trans (PySem.Flt.log2_lt_of (k := 20) (by decide) (by omega)) (by decide)
def NmV (v : V) : Prop := ∃ (ds : List Int) (t : Str), v = .str (nmS ds ++ t) ∧ isD 66 ds ∧ 1 ≤ ds.length ∧ ds.length ≤ 27 ∧ Tail t ∧ t.length ≤ 100
theorem mixC_shape (ks xs : List Int) (hb : isB xs) : chunks (mixC ks xs) = (chunks xs).map (mix 256 ks) := by
  refine chunks_shape xs _ ?_
  rw [List.map_map]
  refine List.map_congr_left fun c hc => ?_
  exact mix_len (.inr rfl : Base 256) ks (chunks_piece xs hb c hc).b
theorem map_mix_inj {ks : List Int} (hk : IsKey ks) : ∀ {cs es : List (List Int)}, (∀ c ∈ cs, Piece c) → (∀ c ∈ es, Piece c) → cs.map (mix 256 ks) = es.map (mix 256 ks) → cs = es
  | [], [], _, _, _ => rfl
  | [], _ :: _, _, _, h => by cases h
  | _ :: _, [], _, _, h => by cases h
  | c :: cs, e :: es, h1, h2, h => by
    have h3 := List.cons.inj h
    have pc := h1 c (List.mem_cons_self ..)
    have pe := h2 e (List.mem_cons_self ..)
    have hl : c.length = e.length := by
      have := congrArg List.length h3.1
      rw [mix_len (.inr rfl : Base 256) ks pc.b, mix_len (.inr rfl : Base 256) ks pe.b] at this
      exact this
    rw [mix_inj (.inr rfl : Base 256) hk pc.b pe.b hl h3.1, map_mix_inj hk (fun x hx => h1 x (List.mem_cons_of_mem _ hx)) (fun x hx => h2 x (List.mem_cons_of_mem _ hx)) h3.2]
theorem mixC_inj {ks xs ys : List Int} (hk : IsKey ks) (hx : isB xs) (hy : isB ys) (h : mixC ks xs = mixC ks ys) : xs = ys := by
  have e := congrArg chunks h
  rw [mixC_shape ks xs hx, mixC_shape ks ys hy] at e
  have e2 := map_mix_inj hk (chunks_piece xs hx) (chunks_piece ys hy) e
  rw [← chunks_flat xs, ← chunks_flat ys, e2]
theorem mixC_len {ks xs : List Int} (hb : isB xs) : (mixC ks xs).length = xs.length := by
  have e : ((chunks xs).map (mix 256 ks)).map List.length = (chunks xs).map List.length := by
    rw [List.map_map]
    refine List.map_congr_left fun c hc => ?_
    exact mix_len (.inr rfl : Base 256) ks (chunks_piece xs hb c hc).b
  have := flat_len2 e
  rw [chunks_flat] at this
  exact this
theorem mixC_isB {ks xs : List Int} (hb : isB xs) : isB (mixC ks xs) := fun b h => by
  obtain ⟨c, hc, hbc⟩ := List.mem_flatMap.mp h
  exact mix_isD (.inr rfl : Base 256) ks (chunks_piece xs hb c hc).b b hbc
theorem mix_flat_len {ks : List Int} : ∀ {cs : List (List Int)}, (∀ c ∈ cs, Piece c) → (cs.flatMap (mix 256 ks)).length ≤ 4 * cs.length
  | [], _ => Nat.zero_le _
  | c :: cs, h => by
    have pc := h c (List.mem_cons_self ..)
    have := mix_flat_len (ks := ks) fun d hd => h d (List.mem_cons_of_mem _ hd)
    have l := mix_len (.inr rfl : Base 256) ks pc.b
    have l4 := pc.h4
    rw [List.flatMap_cons, List.length_append, List.length_cons]
    omega
def okInt (v : V) : Bool := match v with
  | .int i => decide (0 ≤ i) && decide (i ≤ 4294967295)
  | _ => false
def simpleV (v : V) : Prop := (∃ i, v = .int i) ∨ (∃ b, v = .bl b) ∨ (∃ z, v = .str z)
theorem e_sl7 {K : PySem.W.Frag} {H : Hp} {Q : VK} {q : Addr} {ks : List Int} (hk : ks.length = 8) (h : H q = some (.tup (ks.map V.int))) (k : ∀ p, H p = none → Q (.ref p) (upd H p (.tup ((ks.take 7).map V.int)))) : rSlA K (.ref q) none (some 7) H Q := by
  have e7 : HT.sIx (ks.map V.int).length (ks.map V.int).length (some ((7 : Nat) : Int)) = 7 := by
    rw [HT.sIx_nat, List.length_map, hk]
    decide
  refine ⟨q, _, rfl, SqT.of h, fun z => ?_, fun _ p hp => ?_⟩
  · have z2 := z.2
    rw [List.length_map, hk] at z2
    exact absurd z2 (by decide)
  · have e : cutV (ks.map V.int) none (some 7) = (ks.take 7).map V.int := by
      match ks, hk with
      | [_, _, _, _, _, _, _, _], _ => rfl
    rw [e]
    exact k p hp
theorem e_cat1 {K : PySem.W.Frag} {H : Hp} {Q : VK} {a b : Addr} {xs : List V} {y : V} (ha : H a = some (.tup xs)) (hb : H b = some (.tup [y])) (hx : xs ≠ []) (hl : xs.length ≤ 100) (k : ∀ p, H p = none → Q (.ref p) (upd H p (.tup (xs ++ [y])))) : rCatA K (.ref a) (.ref b) H Q :=
  ⟨a, b, xs, [y], rfl, rfl, SqT.of ha, SqT.of hb, sz_of (by rw [List.length_singleton]; omega), fun e => absurd e hx, fun _ e => (by cases e), fun _ _ => k⟩
def OddV (H : Hp) (v : V) : Prop := (v = .non ∨ (∃ i, v = .int i) ∨ ∃ p xs, v = .ref p ∧ H p = some (.lst xs)) ∨
  ∃ (p : Addr) (xs : List V), v = .ref p ∧ H p = some (.tup xs) ∧ xs.length ≤ 1000 ∧ (∀ x ∈ xs, simpleV x) ∧ (decide (xs.length = 8) && xs.all okInt) = false
theorem OddV.same {H H' : Hp} {v : V} (h : OddV H v) (e : Same H H') : OddV H' v := by
  rcases h with (h | h | ⟨p, xs, h1, h2⟩) | ⟨p, xs, h1, h2, h3⟩
  · exact .inl (.inl h)
  · exact .inl (.inr (.inl h))
  · exact .inl (.inr (.inr ⟨p, xs, h1, e _ _ h2⟩))
  · exact .inr ⟨p, xs, h1, e _ _ h2, h3⟩
theorem simple_ints (ks : List Int) : ∀ x ∈ ks.map V.int, simpleV x := fun x h => by
  obtain ⟨i, _, rfl⟩ := List.mem_map.mp h
  exact .inl ⟨i, rfl⟩
theorem simple_snoc {ks : List Int} {y : V} (hy : simpleV y) : ∀ x ∈ ks.map V.int ++ [y], simpleV x := fun x h => by
  rcases List.mem_append.mp h with h | h
  · exact simple_ints ks x h
  · rw [List.mem_singleton.mp h]; exact hy
theorem bad_snoc {xs : List V} {y : V} (h : okInt y = false) : (decide ((xs ++ [y]).length = 8) && (xs ++ [y]).all okInt) = false := by
  rw [List.all_append, show [y].all okInt = false by show (okInt y && true) = false; rw [h]; rfl, Bool.and_false, Bool.and_false]
theorem bad_len {xs : List V} (h : xs.length ≠ 8) : (decide (xs.length = 8) && xs.all okInt) = false := by
  rw [decide_eq_false h, Bool.false_and]
theorem ok_all {ks : List Int} (h : IsKey ks) : (decide ((ks.map V.int).length = 8) && (ks.map V.int).all okInt) = true := by
  rw [List.length_map, h.1, decide_eq_true rfl, Bool.true_and, List.all_map, List.all_eq_true]
  intro i hi
  have := h.2 i hi
  show (decide (0 ≤ i) && decide (i ≤ 4294967295)) = true
  rw [decide_eq_true this.1, decide_eq_true this.2]
  rfl
def NewI (K : PySem.W.Frag) (H : Hp) (xs : List Int) (Q : VK) : Prop := ∀ (p : Addr) (H' : Hp), H p = none → Same H H' → H' p = some (.lst (xs.map V.int)) → Q (.ref p) H'
def sp_joined (K : PySem.W.Frag) : Sp := sp1 fun a H Q => ∃ (p : Addr) (ns : List Int), a = .ref p ∧ SqE K H p (ns.map V.int) ∧ ns.length ≤ 20000 ∧ (∀ n ∈ ns, 0 < bsize n) ∧ ∀ (q : Addr) (H' : Hp), H q = none → Same H H' → H' q = some (.lst ((ns.flatMap bbytes).map V.int)) → Q (.ref q) H'
def sp_root_of (K : PySem.W.Frag) : Sp := sp1 fun a H Q => ∃ (ds : List Int) (t : Str), a = .str (nmS ds ++ t) ∧ isD 66 ds ∧ Tail t ∧ ds.length + t.length ≤ 1000 ∧ ∀ H', Same H H' → Q (.str (nmS ds)) H'
def sp_digits_of (K : PySem.W.Frag) : Sp := sp1 fun a H Q => ∃ (ds : List Int), a = .str (nmS ds) ∧ isD 66 ds ∧ ds.length ≤ 1000 ∧ NewI K H ds Q
def sp_name_of (K : PySem.W.Frag) : Sp := sp1 fun a H Q => ∃ (p : Addr) (ds : List Int), a = .ref p ∧ SqL K H p (ds.map V.int) ∧ isD 66 ds ∧ ds.length ≤ 1000 ∧ ∀ H', Same H H' → Q (.str (nmS ds)) H'
def sp_number (K : PySem.W.Frag) : Sp := sp2 fun a b H Q => ∃ (p : Addr) (ds : List Int) (n : Int), a = .ref p ∧ b = .int n ∧ Base n ∧ SqL K H p (ds.map V.int) ∧ Q (.int (dnum n ds)) H
def sp_turned_digits (K : PySem.W.Frag) : Sp := sp3 fun a b c H Q => ∃ (x n : Int) (m : Nat), a = .int x ∧ b = .int n ∧ c = .int m ∧ Base n ∧ m ≤ 1000 ∧ NewI K H (low n m x) Q
def sp_power (K : PySem.W.Frag) : Sp := sp2 fun a b H Q => ∃ (n : Int) (m : Nat), a = .int n ∧ b = .int m ∧ Base n ∧ m ≤ 1000 ∧ Q (.int (n ^ m)) H
def sp_inverse (K : PySem.W.Frag) : Sp := sp2 fun a b H Q => ∃ (n w : Int), a = .int n ∧ b = .int w ∧ 0 < n ∧ 1 < w ∧ w < 2 ^ 200 ∧ Nat.gcd w.toNat n.toNat = 1 ∧ ∀ (g : Int) (H' : Hp), (∃ q, n * g = 1 + w * q) → (g.natAbs : Int) ≤ w → Same H H' → Q (.int g) H'
def sp_factor (K : PySem.W.Frag) : Sp := sp2 fun a b H Q => ∃ (x n : Int), a = .int x ∧ b = .int n ∧ Base n ∧ 0 ≤ x ∧ x < 4294967296 ∧ ∀ H', Same H H' → Q (.int (fac n x)) H'
def sp_law_factor (K : PySem.W.Frag) : Sp := sp2 fun b a H Q => ∃ (x n : Int), a = .int x ∧ b = .int n ∧ Base n ∧ 0 ≤ x ∧ x < 4294967296 ∧ ∀ H', Same H H' → Q (.int (fac n x)) H'
def sp_mixed (K : PySem.W.Frag) : Sp := sp3 fun a b c H Q => ∃ (p q : Addr) (n : Int) (ds ks : List Int), a = .ref p ∧ b = .int n ∧ c = .ref q ∧ SqL K H p (ds.map V.int) ∧ SqT K H q (ks.map V.int) ∧ Base n ∧ IsKey ks ∧ isD n ds ∧ ds.length ≤ 1000 ∧ NewI K H (mix n ks ds) Q
def sp_unmixed (K : PySem.W.Frag) : Sp := sp3 fun a b c H Q => ∃ (p q : Addr) (n : Int) (ds ks : List Int), a = .ref p ∧ b = .int n ∧ c = .ref q ∧ SqL K H p (ds.map V.int) ∧ SqT K H q (ks.map V.int) ∧ Base n ∧ IsKey ks ∧ isD n ds ∧ ((n = 66 ∧ ds.length ≤ 27) ∨ ds.length ≤ 4) ∧ 1 ≤ ds.length ∧
  ∀ es : List Int, isD n es → es.length = ds.length → mix n ks es = ds → NewI K H es Q
def sp_is_integer (K : PySem.W.Frag) : Sp := sp1 fun a H Q => (∃ i, a = .int i ∧ Q (.bl true) H) ∨ ((∃ b, a = .bl b) ∧ Q (.bl false) H) ∨ ((∃ z, a = .str z) ∧ Q (.bl false) H)
def sp_is_key (K : PySem.W.Frag) : Sp := sp1 fun a H Q => ((a = .non ∨ (∃ i, a = .int i) ∨ ∃ p xs, a = .ref p ∧ H p = some (.lst xs)) ∧ Q (.bl false) H) ∨
  ∃ (p : Addr) (xs : List V), a = .ref p ∧ H p = some (.tup xs) ∧ xs.length ≤ 1000 ∧ (∀ x ∈ xs, simpleV x) ∧ ∀ H', Same H H' → Q (.bl (decide (xs.length = 8) && xs.all okInt)) H'
def sp_seal_name (K : PySem.W.Frag) : Sp := sp2 fun a b H Q => ∃ (ds ks : List Int) (t : Str) (q : Addr), a = .str (nmS ds ++ t) ∧ b = .ref q ∧ SqT K H q (ks.map V.int) ∧ IsKey ks ∧ isD 66 ds ∧ Tail t ∧ ds.length + t.length ≤ 1000 ∧ ∀ H', Same H H' → Q (.str (nmS (mix 66 ks ds) ++ t)) H'
def sp_law_sealed_name (K : PySem.W.Frag) : Sp := sp2 fun a b H Q => ∃ (ds ks : List Int) (t : Str) (q : Addr), a = .str (nmS ds ++ t) ∧ b = .ref q ∧ SqT K H q (ks.map V.int) ∧ IsKey ks ∧ isD 66 ds ∧ Tail t ∧ ds.length ≤ 27 ∧ t.length ≤ 900 ∧ ∀ H', Same H H' → Q (.str (nmS (mix 66 ks ds) ++ t)) H'
def sp_open_name (K : PySem.W.Frag) : Sp := sp2 fun a b H Q => ∃ (ds ks : List Int) (t : Str) (q : Addr), a = .str (nmS ds ++ t) ∧ b = .ref q ∧ SqT K H q (ks.map V.int) ∧ IsKey ks ∧ isD 66 ds ∧ Tail t ∧ 1 ≤ ds.length ∧ ds.length ≤ 27 ∧ t.length ≤ 900 ∧ ∀ (es : List Int) H', isD 66 es → es.length = ds.length → mix 66 ks es = ds → Same H H' → Q (.str (nmS es ++ t)) H'
def sp_seal_blocks (K : PySem.W.Frag) : Sp := sp2 fun a b H Q => ∃ (p q : Addr) (cs : List (List Int)) (ks : List Int), a = .ref p ∧ b = .ref q ∧ SqT K H p ((cs.map bnum).map V.int) ∧ (∀ c ∈ cs, Piece c) ∧ cs.length ≤ 1000 ∧ SqT K H q (ks.map V.int) ∧ IsKey ks ∧ ∀ (r : Addr) (H' : Hp), H r = none → Same H H' → H' r = some (.tup (((cs.map (mix 256 ks)).map bnum).map V.int)) → Q (.ref r) H'
def sp_open_blocks (K : PySem.W.Frag) : Sp := sp2 fun a b H Q => ∃ (p q : Addr) (cs : List (List Int)) (ks : List Int), a = .ref p ∧ b = .ref q ∧ SqT K H p ((cs.map bnum).map V.int) ∧ (∀ c ∈ cs, Piece c) ∧ cs.length ≤ 1000 ∧ SqT K H q (ks.map V.int) ∧ IsKey ks ∧ ∀ (r : Addr) (H' : Hp) (es : List (List Int)), (∀ c ∈ es, Piece c) → es.map (mix 256 ks) = cs → H r = none → Same H H' → H' r = some (.tup ((es.map bnum).map V.int)) → Q (.ref r) H'
def sp_seal_content (K : PySem.W.Frag) : Sp := sp2 fun a b H Q => ∃ (p q : Addr) (xs ks : List Int), a = .ref p ∧ b = .ref q ∧ SqL K H p (xs.map V.int) ∧ isB xs ∧ xs.length ≤ 1000 ∧ SqT K H q (ks.map V.int) ∧ IsKey ks ∧ NewI K H (mixC ks xs) Q
def sp_law_sealed_content (K : PySem.W.Frag) : Sp := sp_seal_content K
def sp_open_content (K : PySem.W.Frag) : Sp := sp2 fun a b H Q => ∃ (p q : Addr) (xs ks : List Int), a = .ref p ∧ b = .ref q ∧ SqL K H p (xs.map V.int) ∧ isB xs ∧ xs.length ≤ 1000 ∧ SqT K H q (ks.map V.int) ∧ IsKey ks ∧ ∀ es : List Int, isB es → es.length = xs.length → mixC ks es = xs → NewI K H es Q
def sp_law_key (K : PySem.W.Frag) : Sp := sp1 fun a H Q => ∃ (st sc : Addr) (ns : List Int), a = .ref st ∧ Dw K st sc ns H ∧ ∀ (q : Addr) (ks : List Int) (H' : Hp), H q = none → Kp st H H' → Dw K st sc ns H' → H' q = some (.tup (ks.map V.int)) → IsKey ks → Q (.ref q) H'
def sp_law_mixed (K : PySem.W.Frag) : Sp := sp4 fun a b c d H Q => ∃ (n : Int) (ds ks : List Int) (q : Addr), a = .int (dnum n ds) ∧ b = .int n ∧ c = .int (ds.length : Nat) ∧ d = .ref q ∧ Base n ∧ isD n ds ∧ ds.length ≤ 1000 ∧ ((n = 66 ∧ ds.length ≤ 27) ∨ ds.length ≤ 4) ∧ SqT K H q (ks.map V.int) ∧ IsKey ks ∧ ∀ H', Same H H' → Q (.int (dnum n (mix n ks ds))) H'
def sp_law_user_name (K : PySem.W.Frag) : Sp := sp1 fun a H Q => ∃ (st sc : Addr) (ns : List Int), a = .ref st ∧ Dw K st sc ns H ∧ ∀ (ds : List Int) (H' : Hp), isD 66 ds → 1 ≤ ds.length → ds.length ≤ 27 → Kp st H H' → Dw K st sc ns H' → Q (.str (nmS ds)) H'
def sp_law_any_name (K : PySem.W.Frag) : Sp := sp1 fun a H Q => ∃ (st sc : Addr) (ns : List Int), a = .ref st ∧ Dw K st sc ns H ∧ ∀ (ds : List Int) (t : Str) (H' : Hp), isD 66 ds → 1 ≤ ds.length → ds.length ≤ 27 → Tail t → t.length ≤ 100 → Kp st H H' → Dw K st sc ns H' → Q (.str (nmS ds ++ t)) H'
def sp_law_bytes (K : PySem.W.Frag) : Sp := sp1 fun a H Q => ∃ (st sc : Addr) (ns : List Int), a = .ref st ∧ Dw K st sc ns H ∧ ∀ (p : Addr) (xs : List Int) (H' : Hp), isB xs → xs.length ≤ 13 → H p = none → Kp st H H' → Dw K st sc ns H' → H' p = some (.lst (xs.map V.int)) → Q (.ref p) H'
def sp_law (K : PySem.W.Frag) : Sp := sp1 fun a H Q => ∃ (sa : Addr) (ns : List Int), a = .ref sa ∧ SqL K H sa (ns.map V.int) ∧ ns.length ≤ 63 ∧ ∀ H', Q (.bl true) H'
local macro_rules | `(tactic| walk_at "dr") => `(tactic| first
  | assumption
  | exact Dr.same (by assumption) (same_new (by assumption))
  | exact Dr.same (Dr.same (by assumption) (same_new (by assumption))) (same_new (by assumption)))
local macro_rules | `(tactic| walk_at "ar") => `(tactic| first | omega | (simp only [List.length_cons, List.length_nil, List.length_map, List.length_append]; omega) | (simp only [List.length_cons, List.length_nil, List.length_map, List.length_append] at *; omega) | decide | assumption)
local macro_rules | `(tactic| walk_at "sl") => `(tactic| first
  | exact Dr.seq (by assumption)
  | assumption
  | exact SqL.of (by assumption)
  | exact SqL.of upd_same)
local macro_rules | `(tactic| walk_at "slt") => `(tactic| first
  | assumption
  | exact SqT.of (by assumption)
  | exact SqT.of upd_same)
local macro_rules | `(tactic| walk_at "size") => `(tactic| first
  | assumption
  | (refine sz_of ?_; first | decide | omega | (simp only [List.length_cons, List.length_nil, List.length_map, List.length_append] at *; omega)))
local macro_rules | `(tactic| walk_at "seq") => `(tactic| first
  | assumption
  | exact .inl (Dr.seq (by assumption))
  | exact .inl (by assumption)
  | exact .inl (SqL.of (by assumption))
  | exact .inr (by assumption)
  | exact .inr (SqT.of (by assumption)))
local macro_rules | `(tactic| walk_at "cond") => `(tactic| first
  | ((with_reducible show CMul _ _); first | exact .inr ⟨by decide, by decide⟩ | exact .inl ⟨by decide, by decide⟩ | exact .inr ⟨by omega, by omega⟩ | exact .inl ⟨by omega, by omega⟩)
  | ((with_reducible show CDivW _ _); first | exact ⟨by decide, by decide⟩ | exact wide_div (b := 60) (by omega) (by omega) (by decide) (by decide))
  | ((with_reducible show CDiv _ _); first | exact ⟨by decide, by decide⟩ | exact ⟨by omega, by omega⟩)
  | ((with_reducible show CPow _ _); exact ⟨by decide, by decide, by decide⟩)
  | (show (0 : Int) < _; first | decide | omega)
  | (show (0 : Int) ≤ _; first | decide | omega))
local macro_rules | `(tactic| walk_at "st1") => `(tactic| first
  | ((with_reducible show tVar _ _ _ _); refine e_var rfl ?_)
  | ((with_reducible show tC _ _ _ _); refine e_c ?_)
  | ((with_reducible show tOp _ _ _ _ _ _); refine e_op ?_)
  | ((with_reducible show rI0 _ _ _ _ _); refine e_I0 ?_)
  | ((with_reducible show rI _ _ _ _ _ _); refine e_I (by walk_at "cond") ?_)
  | ((with_reducible show rEq (V.int _) (V.int _) _ _); refine e_eqI ?_)
  | ((with_reducible show rNe (V.int _) (V.int _) _ _); refine e_neI ?_)
  | ((with_reducible show rEq (V.str _) (V.str _) _ _); refine e_eqS ?_)
  | ((with_reducible show rNe (V.str _) (V.str _) _ _); refine e_neS ?_)
  | ((with_reducible show rEq (V.bl _) (V.bl _) _ _); refine e_eqB ?_)
  | ((with_reducible show rNe (V.bl _) (V.bl _) _ _); refine e_neB ?_)
  | ((with_reducible show rEq _ _ _ _); refine e_eq rfl ?_)
  | ((with_reducible show rNe _ _ _ _); refine e_ne rfl ?_)
  | ((with_reducible show tTest _ _ _ _); refine e_test ?_)
  | ((with_reducible show tB _ _ _ _); refine e_B ?_)
  | ((with_reducible show ∃ k, V.bl _ = V.bl k ∧ _); refine e_ex ?_)
  | ((with_reducible show ∃ k, V.int _ = V.int k ∧ _); refine e_exI ?_)
  | ((with_reducible show tAnd _ _ _ _ _); refine e_and ?_)
  | ((with_reducible show tOr _ _ _ _ _); refine e_or ?_)
  | ((with_reducible show tNot _ _ _ _); refine e_not ?_)
  | ((with_reducible show tYes _ _ _); refine e_yes ?_))
local macro_rules | `(tactic| walk_at "st2") => `(tactic| first
  | ((with_reducible show tAndV _ _ _ _ _); refine e_andV ?_)
  | ((with_reducible show tOrV _ _ _ _ _); refine e_orV ?_)
  | ((with_reducible show tNotV _ _ _ _); refine e_notV ?_)
  | ((with_reducible show tIf _ _ _ _ _ _); refine e_if ?_)
  | ((with_reducible show tChain _ _ _ _ _ _ _ _); refine e_chain ?_)
  | ((with_reducible show tSeq _ _ _ _ _); refine e_seq ?_)
  | ((with_reducible show tNext _ _ _); refine e_next ?_)
  | ((with_reducible show tBreak _ _ _); refine e_break ?_)
  | ((with_reducible show tCont _ _ _); refine e_cont ?_)
  | ((with_reducible show tDrop _ _ _ _); refine e_drop ?_)
  | ((with_reducible show tRet _ _ _ _); refine e_ret ?_)
  | ((with_reducible show tRetN _ _ _); refine e_retN ?_)
  | ((with_reducible show tIfS _ _ _ _ _ _); refine e_ifS ?_)
  | ((with_reducible show tAsg _ _ _ _ _); refine e_asg ?_)
  | ((with_reducible show gName _ _ _ _ _); refine e_name ?_)
  | ((with_reducible show gSub _ _ _ _ _ _ _); refine e_sub ?_)
  | ((with_reducible show tNil _ _ _); refine e_nil ?_)
  | ((with_reducible show tCons _ _ _ _ _); refine e_cons ?_)
  | ((with_reducible show tCall _ _ _ _ _ _ _); refine e_call ?_)
  | ((with_reducible show tCB _ _ _ _ _); refine e_CB ?_)
  | ((with_reducible show tTup _ _ _ _); refine e_tup ?_)
  | ((with_reducible show tLst _ _ _ _); refine e_lst ?_)
  | ((with_reducible show tSl _ _ _ _ _ _ _); refine e_sl ?_)
  | ((with_reducible show tNoPart _ _ _); refine e_noP ?_)
  | ((with_reducible show tPart _ _ _ _); refine e_part ?_)
  | ((with_reducible show tBM _ _ _ _ _ _ _ _); refine e_bm ?_)
  | ((with_reducible show tFor _ _ _ _ _ _); refine e_for ?_)
  | ((with_reducible show iList _ _ _ _ _); refine e_iList ?_)
  | ((with_reducible show iTup _ _ _ _ _); refine e_iTup ?_)
  | ((with_reducible show iStr _ _ _ _); refine e_iStr ?_)
  | ((with_reducible show iRng1 _ _ _ _); refine e_iRng1 ?_)
  | ((with_reducible show iRng2 _ _ _ _); refine e_iRng2 ?_)
  | ((with_reducible show (∃ i', [V.int _] = [V.int i'] ∧ _) ∨ ∃ k, [V.int _] = [V.bl k] ∧ _); refine Or.inl ⟨_, rfl, ?_⟩)
  | ((with_reducible show ∃ p ys, [V.ref _] = [V.ref p] ∧ (SqL _ _ p ys ∨ SqT _ _ p ys) ∧ _); refine ⟨_, _, rfl, (by walk_at "seq"), ?_⟩)
  | ((with_reducible show tLc _ _ _ _ _ _ _ _); refine e_lc ?_)
  | ((with_reducible show tM0 _ _ _ _ _); refine e_m0 ?_)
  | ((with_reducible show tM1 _ _ _ _ _ _); refine e_m1 ?_)
  | ((with_reducible show ∃ k, V.str _ = V.str k ∧ _); refine e_exS ?_)
  | ((with_reducible show ∃ k, V.ref _ = V.ref k ∧ (∃ xs, SqL _ _ k xs) ∧ _); refine e_exR (by walk_at "sl") ?_)
  | ((with_reducible show ∃ k, V.ref _ = V.ref k ∧ (∃ xs, SqT _ _ k xs) ∧ _); refine e_exRT (by walk_at "slt") ?_)
  | ((with_reducible show ∃ j, [V.int _] = [V.int j] ∧ _ ≤ j ∧ j < _ ∧ _); refine e_rng1 (by omega) (by omega) ?_)
  | ((with_reducible show ∃ i j, [V.int _, V.int _] = [V.int i, V.int j] ∧ _ ∧ _); refine e_rng2 (by omega) ?_)
  | ((with_reducible show ∃ z', [V.str _] = [V.str z'] ∧ z'.length ≤ sizeLine ∧ _); refine ⟨_, rfl, (by walk_at "size"), ?_⟩)
  | ((with_reducible show (∃ a, V.str _ = V.str a) ∧ _); refine ⟨⟨_, rfl⟩, ?_⟩)
  | ((with_reducible show rSlS (V.str _) _ _ _ _); refine e_slS (by walk_at "size") ?_)
  | ((with_reducible show wipe _ _ = wipe _ _ ∧ _); refine ⟨rfl, ?_⟩)
  | ((with_reducible show List.length _ ≤ sizeLine ∧ ∀ p, _); refine ⟨(by walk_at "size"), fun p hp => ?_⟩)
  | ((with_reducible show rIsi _ _ _ _); first | refine isi_bb ?_ | refine isi_ib ?_ | refine isi_bi ?_ | refine isi_ii ?_ | refine isi_tt (by assumption) ?_ | refine isi_ll (by assumption) ?_)
  | ((with_reducible show spDraw _ _ _ _ _); refine ⟨_, _, _, rfl, _, _, _, _, rfl, rfl, rfl, (by walk_at "dr"), (by walk_at "ar"), (by walk_at "ar"), ?_⟩)
  | ((with_reducible show tUn _ _ _ _ _); refine e_un ?_)
  | ((with_reducible show rU _ (V.int _) _ _); refine e_U ?_)
  | ((with_reducible show ∃ i, [V.int _] = [V.int i] ∧ _); refine ⟨_, rfl, ?_⟩)
  | ((with_reducible show gTup _ _ _ _ _ _ _); refine ⟨_, _, rfl, (by walk_at "slt"), rfl, ?_⟩)
  | ((with_reducible show gCons _ _ _ _ _ _); refine ⟨_, _, rfl, ?_⟩)
  | ((with_reducible show gNil _ _ _ _); refine ⟨rfl, ?_⟩)
  | ((with_reducible show tAug _ _ _ _ _ _); refine e_aug rfl ?_)
  | ((with_reducible show if true = true then _ else _); refine i_T ?_)
  | ((with_reducible show if false = true then _ else _); refine i_F ?_))
local macro_rules | `(tactic| walk_at "st") => `(tactic| first | walk_at "st1" | walk_at "st2" | (dsimp only [List.append_nil, List.nil_append, List.cons_append, Bool.not_true, Bool.not_false]))
local macro_rules | `(tactic| walk_at "go") => `(tactic| repeat walk_at "st")
local macro_rules | `(tactic| walk_at "st") => `(tactic| first
  | ((with_reducible show iRevR _ _ _ _); refine e_iRevR ?_)
  | ((with_reducible show tRg1 _ _ _ _); refine e_rg1 ?_)
  | ((with_reducible show tRg2 _ _ _ _ _); refine e_rg2 ?_)
  | ((with_reducible show iEnum _ _ _ _ _); refine e_iEnum ?_)
  | ((with_reducible show iEnumT _ _ _ _ _); refine e_iEnumT ?_)
  | ((with_reducible show iRng3 _ _ _ _); refine e_iRng3 ?_)
  | ((with_reducible show ∃ p ys, [V.ref _] = [V.ref p] ∧ SqL _ _ p ys ∧ _); refine ⟨_, _, rfl, (by walk_at "sl"), ?_⟩)
  | ((with_reducible show ∃ p ys, [V.ref _] = [V.ref p] ∧ SqT _ _ p ys ∧ _); refine ⟨_, _, rfl, (by walk_at "slt"), ?_⟩)
  | ((with_reducible show tyV _ "list" (V.ref _) _ ∧ _); refine ⟨.inl ⟨rfl, _, (by walk_at "sl")⟩, ?_⟩)
  | ((with_reducible show ∃ a b, V.bl _ = V.bl a ∧ V.bl _ = V.bl b ∧ _); refine ⟨_, _, rfl, rfl, ?_⟩)
  | ((with_reducible show ∃ c, V.bl _ = V.bl c ∧ _); refine ⟨_, rfl, ?_⟩)
  | ((with_reducible show if (!true) = true then _ else _); refine i_F ?_)
  | ((with_reducible show if (!false) = true then _ else _); refine i_T ?_))
local macro_rules | `(tactic| walk_at "st") => `(tactic| first
  | ((with_reducible show tWhile _ _ _ _ _); refine e_tWhile ?_)
  | ((with_reducible show tPar _ _ _ _ _ _); refine e_par ?_)
  | ((with_reducible show iRevR3 _ _ _ _); refine e_revR3 ?_)
  | ((with_reducible show tRg3 _ _ _ _); refine e_tRg3 ?_)
  | ((with_reducible show tRevL _ _ _ _ _); refine e_tRevL ?_))
section
variable {P : Program} {w : World} {K : PySem.W.Frag} {mg : Str → Option Value} {base : Heap}
theorem ok_block_number (T : Txt K mg)   {f : Addr} {fd : FuncData} (F : FnP K "block_number" s_block_number f fd) : FnOk P w K mg base CX0 1 f fd ["data"] (sp_block_number K) := by
  refine F.ok sc_block_number (fun vs H Q E h => ?_) (fun cdv A outer s H vs Q E hr h => ?_)
  · obtain ⟨_, rfl, _⟩ := h
    rfl
  · have S := sc_block_number
    refine ⟨_, PSs.nox (pss_cons (ps_set (i := 1) S.nd rfl (by first | exact .inl rfl | exact .inr rfl) pe_int)
    (pss_cons (ps_for PassesOwn.never rfl (pi_list (pv 0)) (pg_name (i := 2) S.nd rfl (by first | exact .inl rfl | exact .inr rfl))
    (pss_one (ps_set (i := 1) S.nd rfl (by first | exact .inl rfl | exact .inr rfl) (pe_op op_add (pe_op op_mul (pv 1) pe_int) (pv 2)))))
    (pss_one (ps_ret (pv 1))))), ?_⟩
    try dsimp only [cxOf, Cx.nox]
    obtain ⟨_, rfl, p, xs, rfl, hS, k⟩ := h
    walk_at "go"
    refine for_ints (ns := xs) (fun pre σ H1 => (∃ v2, σ = [some (.ref p), some (.int (bnum pre)), v2]) ∧ H1 = H) ⟨⟨_, rfl⟩, rfl⟩ (fun pre σ H1 q => by rw [q.2]; exact hS) (fun pre x post σ H1 e q => ?_) (fun σ H1 q => ?_)
    · obtain ⟨⟨v2, rfl⟩, rfl⟩ := q
      walk_at "go"
      refine ⟨⟨some (.int x), ?_⟩, rfl⟩
      have e2 : bnum (pre ++ [x]) = bnum pre * 256 + x := by
        unfold bnum
        rw [List.foldl_append]
        rfl
      rw [e2]
      rfl
    · obtain ⟨⟨v2, rfl⟩, rfl⟩ := q
      walk_at "go"
      exact k
theorem ok_block_size (T : Txt K mg)   {f : Addr} {fd : FuncData} (F : FnP K "block_size" s_block_size f fd) : FnOk P w K mg base CX0 1 f fd ["number"] (sp_block_size K) := by
  refine F.ok sc_block_size (fun vs H Q E h => ?_) (fun cdv A outer s H vs Q E hr h => ?_)
  · obtain ⟨_, rfl, _⟩ := h
    rfl
  · have S := sc_block_size
    refine ⟨_, PSs.nox (pss_cons (ps_for PassesOwn.never rfl (pi_range2 (by rfl) T.f_range (pa_cons pe_int (pa_cons (pe_op op_add (C8.pe_gc (by rfl) T.c_BLOCK) pe_int) pa_nil))) (pg_name (i := 1) S.nd rfl (by first | exact .inl rfl | exact .inr rfl))
    (pss_one (ps_if (pt_cmpR op_eq (pe_op op_shr (pv 0) (pe_op op_mul pe_int (pv 1))) pe_int (nomark _))
      (pss_one (ps_ret (pv 1)))
      pss_nil)))
    (pss_one (ps_ret pe_int))), ?_⟩
    try dsimp only [cxOf, Cx.nox]
    obtain ⟨_, rfl, n, rfl, k⟩ := h
    walk_at "go"
    refine for_rng (fun i σ H1 => (∃ v1, σ = [some (.int n), v1]) ∧ H1 = H ∧ (1 ≤ i → ¬ n / 256 = 1) ∧ (2 ≤ i → ¬ n / 65536 = 1) ∧ (3 ≤ i → ¬ n / 16777216 = 1) ∧ (4 ≤ i → ¬ n / 4294967296 = 1)) ⟨⟨_, rfl⟩, rfl, by omega, by omega, by omega, by omega⟩ (fun i σ H1 hi q => ?_) (fun σ H1 q => ?_)
    · obtain ⟨⟨v1, rfl⟩, rfl, q1, q2, q3, q4⟩ := q
      have hi4 : i < 4 := hi
      walk_at "go"
      match i, hi4 with
      | 0, _ =>
        show if decide (n / 256 = 1) = true then _ else _
        refine i_d (fun h1 => ?_) (fun h1 => ?_)
        · walk_at "go"
          have e : bsize n = 1 := by unfold bsize; rw [if_pos h1]
          rw [e] at k
          exact k
        · walk_at "go"
          exact ⟨⟨_, rfl⟩, rfl, fun _ => h1, by omega, by omega, by omega⟩
      | 1, _ =>
        show if decide (n / 65536 = 1) = true then _ else _
        refine i_d (fun h1 => ?_) (fun h1 => ?_)
        · walk_at "go"
          have e : bsize n = 2 := by unfold bsize; rw [if_neg (q1 (by omega)), if_pos h1]
          rw [e] at k
          exact k
        · walk_at "go"
          exact ⟨⟨_, rfl⟩, rfl, fun _ => q1 (by omega), fun _ => h1, by omega, by omega⟩
      | 2, _ =>
        show if decide (n / 16777216 = 1) = true then _ else _
        refine i_d (fun h1 => ?_) (fun h1 => ?_)
        · walk_at "go"
          have e : bsize n = 3 := by unfold bsize; rw [if_neg (q1 (by omega)), if_neg (q2 (by omega)), if_pos h1]
          rw [e] at k
          exact k
        · walk_at "go"
          exact ⟨⟨_, rfl⟩, rfl, fun _ => q1 (by omega), fun _ => q2 (by omega), fun _ => h1, by omega⟩
      | 3, _ =>
        show if decide (n / 4294967296 = 1) = true then _ else _
        refine i_d (fun h1 => ?_) (fun h1 => ?_)
        · walk_at "go"
          have e : bsize n = 4 := by unfold bsize; rw [if_neg (q1 (by omega)), if_neg (q2 (by omega)), if_neg (q3 (by omega)), if_pos h1]
          rw [e] at k
          exact k
        · walk_at "go"
          exact ⟨⟨_, rfl⟩, rfl, fun _ => q1 (by omega), fun _ => q2 (by omega), fun _ => q3 (by omega), fun _ => h1⟩
    · obtain ⟨⟨v1, rfl⟩, rfl, q1, q2, q3, q4⟩ := q
      walk_at "go"
      have e : bsize n = 0 := by unfold bsize; rw [if_neg (q1 (by decide)), if_neg (q2 (by decide)), if_neg (q3 (by decide)), if_neg (q4 (by decide))]
      rw [e] at k
      exact k
theorem ok_is_block (T : Txt K mg)  (c_block_size : Cal P w K mg base 1 "block_size" (sp_block_size K)) {f : Addr} {fd : FuncData} (F : FnP K "is_block" s_is_block f fd) : FnOk P w K mg base CX0 2 f fd ["number"] (sp_is_block K) := by
  refine F.ok sc_is_block (fun vs H Q E h => ?_) (fun cdv A outer s H vs Q E hr h => ?_)
  · obtain ⟨_, rfl, _⟩ := h
    rfl
  · have S := sc_is_block
    refine ⟨_, PSs.nox (pss_one (ps_ret (pe_cmpR op_gt (pe_c c_block_size hr (by decide) (by rfl) (pa_cons (pv 0) pa_nil)) pe_int (nomark _)))), ?_⟩
    try dsimp only [cxOf, Cx.nox]
    obtain ⟨_, rfl, n, rfl, k⟩ := h
    walk_at "go"
    refine ⟨_, rfl, n, rfl, ?_⟩
    walk_at "go"
    exact k
theorem ok_block_bytes (T : Txt K mg)  (c_block_size : Cal P w K mg base 1 "block_size" (sp_block_size K)) {f : Addr} {fd : FuncData} (F : FnP K "block_bytes" s_block_bytes f fd) : FnOk P w K mg base CX0 2 f fd ["number"] (sp_block_bytes K) := by
  refine F.ok sc_block_bytes (fun vs H Q E h => ?_) (fun cdv A outer s H vs Q E hr h => ?_)
  · obtain ⟨_, rfl, _⟩ := h
    rfl
  · have S := sc_block_bytes
    refine ⟨_, PSs.nox (pss_cons (ps_set (i := 1) S.nd rfl (by first | exact .inl rfl | exact .inr rfl) (pe_c c_block_size hr (by decide) (by rfl) (pa_cons (pv 0) pa_nil)))
    (pss_cons (ps_if (pt_cmpR op_eq (pv 1) pe_int (nomark _))
    (pss_one ps_never)
    pss_nil)
    (pss_one (ps_ret (pe_lc (own := [("behind", 2)]) (g := gName 2) (tt := tYes) rfl S.nd (pi_revR (by rfl) T.f_reversed (prg_1 (by rfl) T.f_range (pv 1))) (blkOk_by (N := N_block_bytes) (sc := defScope s_block_bytes) (by decide +kernel)) (fun _ _ _ _ _ => (pg_name (i := 2) S.nd rfl (by first | exact .inl rfl | exact .inr rfl))) (fun _ _ _ _ _ => pts_nil) (fun _ _ _ _ _ => (pe_op op_andM (pe_op op_shr (pv 0) (pe_op op_mul pe_int (pv 2))) pe_int))))))), ?_⟩
    try dsimp only [cxOf, Cx.nox]
    obtain ⟨_, rfl, n, rfl, hn, k⟩ := h
    walk_at "go"
    refine ⟨_, rfl, n, rfl, ?_⟩
    walk_at "go"
    refine i_d (fun h1 => ?_) (fun h1 => ?_)
    · exfalso; omega
    have h4 := (bsize_le n).2
    walk_at "go"
    refine ⟨by omega, by omega, by omega, by omega, ?_⟩
    intro D hD
    refine lc_map_rngC hD (by omega) (fun i => .int ((bbytes n).getD i 0)) (fun i H2 C E hi s2 hC => ?_) (fun H2 s2 e2 => ?_)
    · walk_at "go"
      refine ⟨_, 8, rfl, rfl, ?_⟩
      rw [byte_at hn hi]
      exact hC H2 (Same.refl H2)
    · refine k D H2 hD s2 ?_
      rw [e2, show (bsize n - 0).toNat = (bbytes n).length by rw [bbytes_length hn]; omega, map_getD]
theorem ok_split (T : Txt K mg)  (c_block_number : Cal P w K mg base 1 "block_number" (sp_block_number K)) {f : Addr} {fd : FuncData} (F : FnP K "split" s_split f fd) : FnOk P w K mg base CX0 2 f fd ["content"] (sp_split K) := by
  refine F.ok sc_split (fun vs H Q E h => ?_) (fun cdv A outer s H vs Q E hr h => ?_)
  · obtain ⟨_, rfl, _⟩ := h
    rfl
  · have S := sc_split
    refine ⟨_, PSs.nox (pss_one (ps_ret (pe_callTy call_tuple_of (by rfl) T.f_tuple (by first | rfl | decide +kernel) (pa_cons (pe_lc (own := [("at", 1)]) (g := gName 1) (tt := tYes) rfl S.nd (pi_range3 (by rfl) T.f_range (pa_cons pe_int (pa_cons (pe_callB call_len_seq (by rfl) T.f_len (by first | rfl | decide +kernel) (pa_cons (pv 0) pa_nil)) (pa_cons (C8.pe_gc (by rfl) T.c_BLOCK) pa_nil)))) (blkOk_by (N := N_split) (sc := defScope s_split) (by decide +kernel)) (fun _ _ _ _ _ => (pg_name (i := 1) S.nd rfl (by first | exact .inl rfl | exact .inr rfl))) (fun _ _ _ _ _ => pts_nil) (fun _ _ _ _ _ => (pe_c c_block_number hr (by decide) (by rfl) (pa_cons (pe_slice (slL K) (pv 0) (po_some (pv 1)) (po_some (pe_op op_add (pv 1) (C8.pe_gc (by rfl) T.c_BLOCK)))) pa_nil)))) pa_nil)))), ?_⟩
    try dsimp only [cxOf, Cx.nox]
    obtain ⟨_, rfl, p, xs, rfl, hS, hl, k⟩ := h
    walk_at "go"
    refine ⟨_, _, _, _, rfl, range4 (by omega) (by rw [List.length_map]; omega), ?_⟩
    intro D hD
    refine lc_map_rngC hD (by rw [List.length_map]; omega) (fun i => .int (bnum ((xs.drop (4 * i)).take 4))) (fun i H2 C E hi s2 hC => ?_) (fun H2 s2 e2 => ?_)
    · walk_at "go"
      refine e_slL (s2.seq hS) fun r hr => ?_
      rw [cut_chunk]
      walk_at "go"
      refine ⟨_, rfl, r, _, rfl, SqL.of upd_same, ?_⟩
      exact hC _ (same_new hr)
    · walk_at "go"
      refine ⟨D, _, rfl, .inl ⟨SqL.of e2, fun l hl2 => ?_⟩⟩
      refine k l _ (s2.free hl2) (s2.trans (same_new hl2)) ?_
      rw [upd_same, nums_range]
      have e : (((xs.map V.int).length : Nat) : Int).toNat = xs.length := by rw [List.length_map]; omega
      rw [e]
theorem ok_joined (T : Txt K mg)  (c_is_block : Cal P w K mg base 2 "is_block" (sp_is_block K)) (c_block_bytes : Cal P w K mg base 2 "block_bytes" (sp_block_bytes K)) {f : Addr} {fd : FuncData} (F : FnP K "joined" s_joined f fd) : FnOk P w K mg base CX0 3 f fd ["numbers"] (sp_joined K) := by
  refine F.ok sc_joined (fun vs H Q E h => ?_) (fun cdv A outer s H vs Q E hr h => ?_)
  · obtain ⟨_, rfl, _⟩ := h
    rfl
  · have S := sc_joined
    refine ⟨_, PSs.nox (pss_cons (ps_set (i := 1) S.nd rfl (by first | exact .inl rfl | exact .inr rfl) (pe_lst pa_nil))
    (pss_cons (ps_for PassesOwn.never rfl (pi_or (pi_enum (by rfl) T.f_enumerate (pa_cons (pv 0) pa_nil)) (pi_enumT (by rfl) T.f_enumerate (pa_cons (pv 0) pa_nil))) (pg_tup rfl (pgs_cons (pg_name (i := 2) S.nd rfl (by first | exact .inl rfl | exact .inr rfl)) (pgs_cons (pg_name (i := 3) S.nd rfl (by first | exact .inl rfl | exact .inr rfl)) pgs_nil)))
    (pss_cons (ps_if (pt_not (pt_val (pe_c c_is_block hr (by decide) (by rfl) (pa_cons (pv 3) pa_nil))))
      (pss_one ps_never)
      pss_nil)
      (pss_one (ps_expr (pe_bm PySem.F.plainAttrs_list PySem.F.slot_list_extend PySem.F.type_list_extend mt_extend (pv 1) (pa_cons (pe_c c_block_bytes hr (by decide) (by rfl) (pa_cons (pv 3) pa_nil)) pa_nil))))))
    (pss_one (ps_ret (pv 1))))), ?_⟩
    try dsimp only [cxOf, Cx.nox]
    obtain ⟨_, rfl, p, ns, rfl, hS, hl, hb, k⟩ := h
    walk_at "go"
    rename_i D hD
    have sD : Same H (upd H D (.lst [])) := same_new hD
    rcases hS with hS | hS
    · refine .inl ?_
      walk_at "go"
      refine ⟨p, ns.map V.int, rfl, sD.seq hS, ?_⟩
      refine for_enumI (ns := ns) (fun pre σ H1 => (∃ v2 v3, σ = [some (.ref p), some (.ref D), v2, v3]) ∧ Same H H1 ∧ H1 D = some (.lst ((pre.flatMap bbytes).map V.int))) ⟨⟨_, _, rfl⟩, sD, upd_same⟩ (fun pre σ H1 q => q.2.1.seq hS) (fun pre x post t σ H1 e q ht => ?_) (fun σ H1 q => ?_)
      · obtain ⟨⟨v2, v3, rfl⟩, s1, e1⟩ := q
        have hx : 0 < bsize x := hb x (by rw [e]; simp)
        have s2 : Same H1 (upd H1 t (.tup [.int (pre.length : Nat), .int x])) := same_new ht
        walk_at "go"
        refine ⟨_, rfl, x, rfl, ?_⟩
        walk_at "go"
        refine i_nd (fun h1 => absurd hx h1) (fun h1 => ?_)
        walk_at "go"
        have e3 := s2 _ _ e1
        refine ⟨.inl ⟨rfl, _, SqL.of e3⟩, ?_⟩
        walk_at "go"
        refine ⟨_, rfl, x, rfl, hx, fun r H3 hr s3 e4 => ?_⟩
        walk_at "go"
        have hlen : (pre.flatMap bbytes).length ≤ 80000 := by
          have h5 := flat_len pre
          have h6 : pre.length ≤ ns.length := by rw [e]; simp
          omega
        refine e_ext (s3 _ _ e3) e4 (sz_of (by rw [List.length_map, List.length_map]; have := bbytes_len x; omega)) ?_
        refine ⟨⟨some (.int (pre.length : Nat)), some (.int x), rfl⟩, Same.mut ((s1.trans s2).trans s3) hD, ?_⟩
        rw [upd_same, List.flatMap_append, List.map_append]
        simp
      · obtain ⟨⟨v2, v3, rfl⟩, s1, e1⟩ := q
        walk_at "go"
        exact k D H1 hD s1 e1
    · refine .inr ?_
      walk_at "go"
      refine ⟨p, ns.map V.int, rfl, same_tup sD hS, ?_⟩
      refine for_enumIT (ns := ns) (fun pre σ H1 => (∃ v2 v3, σ = [some (.ref p), some (.ref D), v2, v3]) ∧ Same H H1 ∧ H1 D = some (.lst ((pre.flatMap bbytes).map V.int))) ⟨⟨_, _, rfl⟩, sD, upd_same⟩ (fun pre σ H1 q => same_tup q.2.1 hS) (fun pre x post t σ H1 e q ht => ?_) (fun σ H1 q => ?_)
      · obtain ⟨⟨v2, v3, rfl⟩, s1, e1⟩ := q
        have hx : 0 < bsize x := hb x (by rw [e]; simp)
        have s2 : Same H1 (upd H1 t (.tup [.int (pre.length : Nat), .int x])) := same_new ht
        walk_at "go"
        refine ⟨_, rfl, x, rfl, ?_⟩
        walk_at "go"
        refine i_nd (fun h1 => absurd hx h1) (fun h1 => ?_)
        walk_at "go"
        have e3 := s2 _ _ e1
        refine ⟨.inl ⟨rfl, _, SqL.of e3⟩, ?_⟩
        walk_at "go"
        refine ⟨_, rfl, x, rfl, hx, fun r H3 hr s3 e4 => ?_⟩
        walk_at "go"
        have hlen : (pre.flatMap bbytes).length ≤ 80000 := by
          have h5 := flat_len pre
          have h6 : pre.length ≤ ns.length := by rw [e]; simp
          omega
        refine e_ext (s3 _ _ e3) e4 (sz_of (by rw [List.length_map, List.length_map]; have := bbytes_len x; omega)) ?_
        refine ⟨⟨some (.int (pre.length : Nat)), some (.int x), rfl⟩, Same.mut ((s1.trans s2).trans s3) hD, ?_⟩
        rw [upd_same, List.flatMap_append, List.map_append]
        simp
      · obtain ⟨⟨v2, v3, rfl⟩, s1, e1⟩ := q
        walk_at "go"
        exact k D H1 hD s1 e1
theorem ok_root_of (T : Txt K mg)   {f : Addr} {fd : FuncData} (F : FnP K "root_of" s_root_of f fd) : FnOk P w K mg base CX0 1 f fd ["name"] (sp_root_of K) := by
  refine F.ok sc_root_of (fun vs H Q E h => ?_) (fun cdv A outer s H vs Q E hr h => ?_)
  · obtain ⟨_, rfl, _⟩ := h
    rfl
  · have S := sc_root_of
    refine ⟨_, PSs.nox (pss_one (ps_ret (pe_ix ix_tup (pe_partition (pv 0) pe_str) pe_int (fun _ _ => rfl)))), ?_⟩
    try dsimp only [cxOf, Cx.nox]
    obtain ⟨_, rfl, ds, t, rfl, hd, ht, hl, k⟩ := h
    walk_at "go"
    have hz : (nmS ds ++ t).length ≤ sizeLine := Nat.le_trans (by rw [len_app, nmS_len]; omega : _ ≤ 1000) (by decide)
    refine ⟨_, _, rfl, rfl, by decide +kernel, hz, fun p hp => ?_⟩
    rw [part_name hd ht]
    walk_at "go"
    refine e_ixT (SqT.of upd_same) rfl ?_
    exact k _ (same_new hp)
theorem ok_mixed (T : Txt K mg)  (c_number : Cal P w K mg base 1 "_number" (sp_number K)) (c_factor : Cal P w K mg base 1 "factor" (sp_factor K)) (c_turned_digits : Cal P w K mg base 1 "_turned_digits" (sp_turned_digits K)) {f : Addr} {fd : FuncData} (F : FnP K "mixed" s_mixed f fd) : FnOk P w K mg base CX0 2 f fd ["digits", "base", "key"] (sp_mixed K) := by
  refine F.ok sc_mixed (fun vs H Q E h => ?_) (fun cdv A outer s H vs Q E hr h => ?_)
  · obtain ⟨_, _, _, rfl, _⟩ := h
    rfl
  · have S := sc_mixed
    refine ⟨_, PSs.nox (pss_cons (ps_for PassesOwn.never rfl (pi_range3 (by rfl) T.f_range (pa_cons pe_int (pa_cons (pe_callB call_len_seq (by rfl) T.f_len (by first | rfl | decide +kernel) (pa_cons (pv 2) pa_nil)) (pa_cons pe_int pa_nil)))) (pg_name (i := 3) S.nd rfl (by first | exact .inl rfl | exact .inr rfl))
    (pss_cons (ps_set (i := 4) S.nd rfl (by first | exact .inl rfl | exact .inr rfl) (pe_op op_add (pe_op op_mul (pe_c c_number hr (by decide) (by rfl) (pa_cons (pv 0) (pa_cons (pv 1) pa_nil))) (pe_c c_factor hr (by decide) (by rfl) (pa_cons (pe_ix ix_tup (pv 2) (pv 3) (fun _ _ => rfl)) (pa_cons (pv 1) pa_nil)))) (pe_ix ix_tup (pv 2) (pe_op op_add (pv 3) pe_int) (fun _ _ => rfl))))
      (pss_one (ps_set (i := 0) S.nd rfl (by first | exact .inl rfl | exact .inr rfl) (pe_c c_turned_digits hr (by decide) (by rfl) (pa_cons (pv 4) (pa_cons (pv 1) (pa_cons (pe_callB call_len_seq (by rfl) T.f_len (by first | rfl | decide +kernel) (pa_cons (pv 0) pa_nil)) pa_nil))))))))
    (pss_one (ps_ret (pv 0)))), ?_⟩
    try dsimp only [cxOf, Cx.nox]
    obtain ⟨_, _, _, rfl, p, q, n, ds, ks, rfl, rfl, rfl, hS, hT, hn, hk, hd, hl, k⟩ := h
    have hk8 : ks.length = 8 := hk.1
    have hn2 : 0 < n ∧ n < 1000 := by rcases hn with rfl | rfl <;> decide
    walk_at "go"
    rw [List.length_map, hk8]
    refine ⟨_, _, _, 4, rfl, ⟨by decide, by decide, by decide, by decide⟩, ?_⟩
    refine for_rangeC (fun i σ H1 => (∃ (r : Addr) (v3 v4 : Option V), σ = [some (.ref r), some (.int n), some (.ref q), v3, v4] ∧ SqL K H1 r ((mixN n ks ds i).map V.int) ∧ (i = 4 → H r = none ∧ H1 r = some (.lst ((mixN n ks ds i).map V.int)))) ∧ Same H H1) ⟨⟨p, none, none, rfl, hS, fun e => by cases e⟩, Same.refl H⟩ (fun i σ H1 hi z => ?_) (fun σ H1 z => ?_)
    · obtain ⟨⟨r, v3, v4, rfl, hr, _⟩, s1⟩ := z
      obtain ⟨m1, m2⟩ := mixN_ok hn ks hd i
      have a1 : atI (ks.map V.int) (0 + ((i : Nat) : Int) * 2) = some (.int (ks.getD (2 * i) 0)) := key_at hk8 (by omega) (by omega)
      have a2 : atI (ks.map V.int) (0 + ((i : Nat) : Int) * 2 + 1) = some (.int (ks.getD (2 * i + 1) 0)) := key_at hk8 (by omega) (by omega)
      have hf := fac_lt hn (hk.nn (2 * i)) (hk.lt (2 * i))
      walk_at "go"
      refine ⟨_, _, rfl, r, _, n, rfl, rfl, hn, hr, ?_⟩
      walk_at "go"
      refine e_ixT (same_tup s1 hT) a1 ?_
      walk_at "go"
      refine ⟨_, _, rfl, _, n, rfl, rfl, hn, hk.nn _, hk.lt _, fun H2 s2 => ?_⟩
      walk_at "go"
      refine e_ixT (same_tup (s1.trans s2) hT) a2 ?_
      walk_at "go"
      refine ⟨_, _, rfl, .inl (s2.seq hr), ?_⟩
      walk_at "go"
      rw [List.length_map]
      refine ⟨_, _, _, rfl, _, n, _, rfl, rfl, rfl, hn, by omega, fun r2 H3 hr2 s3 e3 => ?_⟩
      walk_at "go"
      refine ⟨⟨r2, _, _, rfl, SqL.of e3, fun _ => ⟨(s1.trans s2).free hr2, e3⟩⟩, (s1.trans s2).trans s3⟩
    · obtain ⟨⟨r, v3, v4, rfl, hr, hf⟩, s1⟩ := z
      obtain ⟨f1, f2⟩ := hf rfl
      walk_at "go"
      exact k r H1 f1 s1 f2
theorem ok_unmixed (T : Txt K mg)  (c_power : Cal P w K mg base 1 "_power" (sp_power K)) (c_number : Cal P w K mg base 1 "_number" (sp_number K)) (c_inverse : Cal P w K mg base 1 "_inverse" (sp_inverse K)) (c_factor : Cal P w K mg base 1 "factor" (sp_factor K)) (c_turned_digits : Cal P w K mg base 1 "_turned_digits" (sp_turned_digits K)) {f : Addr} {fd : FuncData} (F : FnP K "unmixed" s_unmixed f fd) : FnOk P w K mg base CX0 2 f fd ["digits", "base", "key"] (sp_unmixed K) := by
  refine F.ok sc_unmixed (fun vs H Q E h => ?_) (fun cdv A outer s H vs Q E hr h => ?_)
  · obtain ⟨_, _, _, rfl, _⟩ := h
    rfl
  · have S := sc_unmixed
    refine ⟨_, PSs.nox (pss_cons (ps_set (i := 3) S.nd rfl (by first | exact .inl rfl | exact .inr rfl) (pe_c c_power hr (by decide) (by rfl) (pa_cons (pv 1) (pa_cons (pe_callB call_len_seq (by rfl) T.f_len (by first | rfl | decide +kernel) (pa_cons (pv 0) pa_nil)) pa_nil))))
    (pss_cons (ps_for PassesOwn.never rfl (pi_revR3 (by rfl) T.f_reversed (prg_3 (by rfl) T.f_range (pa_cons pe_int (pa_cons (pe_callB call_len_seq (by rfl) T.f_len (by first | rfl | decide +kernel) (pa_cons (pv 2) pa_nil)) (pa_cons pe_int pa_nil))))) (pg_name (i := 4) S.nd rfl (by first | exact .inl rfl | exact .inr rfl))
    (pss_cons (ps_set (i := 5) S.nd rfl (by first | exact .inl rfl | exact .inr rfl) (pe_op op_sub (pe_c c_number hr (by decide) (by rfl) (pa_cons (pe_revL (pv 0)) (pa_cons (pv 1) pa_nil))) (pe_ix ix_tup (pv 2) (pe_op op_add (pv 4) pe_int) (fun _ _ => rfl))))
      (pss_cons (ps_set (i := 5) S.nd rfl (by first | exact .inl rfl | exact .inr rfl) (pe_op op_mulW (pv 5) (pe_c c_inverse hr (by decide) (by rfl) (pa_cons (pe_c c_factor hr (by decide) (by rfl) (pa_cons (pe_ix ix_tup (pv 2) (pv 4) (fun _ _ => rfl)) (pa_cons (pv 1) pa_nil))) (pa_cons (pv 3) pa_nil)))))
      (pss_one (ps_set (i := 0) S.nd rfl (by first | exact .inl rfl | exact .inr rfl) (pe_revL (pe_c c_turned_digits hr (by decide) (by rfl) (pa_cons (pv 5) (pa_cons (pv 1) (pa_cons (pe_callB call_len_seq (by rfl) T.f_len (by first | rfl | decide +kernel) (pa_cons (pv 0) pa_nil)) pa_nil))))))))))
    (pss_one (ps_ret (pv 0))))), ?_⟩
    try dsimp only [cxOf, Cx.nox]
    obtain ⟨_, _, _, rfl, p, q, n, ds, ks, rfl, rfl, rfl, hS, hT, hn, hk, hd, hl, hl1, k⟩ := h
    have hk8 : ks.length = 8 := hk.1
    have hn2 : 0 < n ∧ n < 1000 := by rcases hn with rfl | rfl <;> decide
    obtain ⟨w1, w2⟩ := pow_bd hn hl hl1
    walk_at "go"
    rw [List.length_map]
    refine ⟨_, _, rfl, n, ds.length, rfl, rfl, hn, by omega, ?_⟩
    walk_at "go"
    rw [List.length_map, hk8]
    refine ⟨_, _, _, 4, rfl, ⟨by decide, by decide, by decide, by decide⟩, by decide, ?_⟩
    refine for_rangeC (fun i σ H1 => (∃ (r : Addr) (cur : List Int) (v4 v5 : Option V), σ = [some (.ref r), some (.int n), some (.ref q), some (.int (n ^ ds.length)), v4, v5] ∧ isD n cur ∧ cur.length = ds.length ∧ mixF n ks i cur = ds ∧ SqL K H1 r (cur.map V.int) ∧ (i = 4 → H r = none ∧ H1 r = some (.lst (cur.map V.int)))) ∧ Same H H1) ⟨⟨p, ds, none, none, rfl, hd, rfl, rfl, hS, fun e => by cases e⟩, Same.refl H⟩ (fun i σ H1 hi z => ?_) (fun σ H1 z => ?_)
    · obtain ⟨⟨r, cur, v4, v5, rfl, c1, c2, c3, hr, _⟩, s1⟩ := z
      have a1 : atI (ks.map V.int) (0 + (((4 : Nat) : Int) - 1) * 2 + ((i : Nat) : Int) * -2) = some (.int (ks.getD (2 * (3 - i)) 0)) := key_at hk8 (by omega) (by omega)
      have a2 : atI (ks.map V.int) (0 + (((4 : Nat) : Int) - 1) * 2 + ((i : Nat) : Int) * -2 + 1) = some (.int (ks.getD (2 * (3 - i) + 1) 0)) := key_at hk8 (by omega) (by omega)
      have hf := fac_cop hn (hk.nn (2 * (3 - i)))
      have hg := hf.2 ds.length
      have k0 := hk.nn (2 * (3 - i) + 1)
      have k1 := hk.lt (2 * (3 - i) + 1)
      walk_at "go"
      refine ⟨_, _, rfl, hr, fun r1 hr1 => ?_⟩
      rw [← List.map_reverse]
      have s2 := same_new (o := .lst (cur.reverse.map V.int)) hr1
      have e2 : (upd H1 r1 (.lst (cur.reverse.map V.int))) r1 = some (.lst (cur.reverse.map V.int)) := upd_same
      generalize upd H1 r1 (.lst (cur.reverse.map V.int)) = H2 at *
      walk_at "go"
      refine ⟨_, _, rfl, r1, _, n, rfl, rfl, hn, SqL.of e2, ?_⟩
      walk_at "go"
      refine e_ixT (same_tup (s1.trans s2) hT) a2 ?_
      walk_at "go"
      refine e_ixT (same_tup (s1.trans s2) hT) a1 ?_
      walk_at "go"
      refine ⟨_, _, rfl, _, n, rfl, rfl, hn, hk.nn _, hk.lt _, fun H3 s3 => ?_⟩
      walk_at "go"
      refine ⟨_, _, rfl, _, _, rfl, rfl, hf.1, w1, by omega, hg, fun g H4 hgi hgb s4 => ?_⟩
      obtain ⟨gq, hgq⟩ := hgi
      have dl := dnum_lt hn2.1 (isD_rev c1)
      rw [List.length_reverse, c2] at dl
      have dl2 := Int.emod_lt_of_pos (dnum n cur.reverse) (show 0 < n ^ ds.length by omega)
      rw [dl.2] at dl2
      walk_at "go"
      refine e_I (wide_mul (a := 200) (b := 200) (by omega) (by omega) (by decide) (by decide) (by decide)) ?_
      walk_at "go"
      refine ⟨_, _, rfl, .inl (((s2.trans s3).trans s4).seq hr), ?_⟩
      walk_at "go"
      rw [List.length_map]
      refine ⟨_, _, _, rfl, _, n, _, rfl, rfl, rfl, hn, by omega, fun r2 H5 hr2 s5 e5 => ?_⟩
      walk_at "go"
      refine ⟨_, _, rfl, SqL.of e5, fun r3 hr3 => ?_⟩
      rw [← List.map_reverse]
      walk_at "go"
      have sA := (((s1.trans s2).trans s3).trans s4).trans s5
      have hst : stp n ks (3 - i) (ust n g (ks.getD (2 * (3 - i) + 1) 0) cur) = cur := by
        refine mst_ust (q := gq) hn2.1 c1 ?_
        rw [c2]
        exact hgq
      refine ⟨⟨r3, ust n g (ks.getD (2 * (3 - i) + 1) 0) cur, _, _, rfl, ust_isD hn2.1 _ _ _, (ust_len ..).trans c2, ?_, SqL.of upd_same, fun _ => ⟨sA.free hr3, upd_same⟩⟩, sA.trans (same_new hr3)⟩
      show mixF n ks i (stp n ks (3 - i) _) = ds
      rw [hst, c3]
    · obtain ⟨⟨r, cur, v4, v5, rfl, c1, c2, c3, hr, hf⟩, s1⟩ := z
      obtain ⟨f1, f2⟩ := hf rfl
      walk_at "go"
      exact k cur c1 c2 c3 r H1 f1 s1 f2
theorem ok_factor (T : Txt K mg)   {f : Addr} {fd : FuncData} (F : FnP K "factor" s_factor f fd) : FnOk P w K mg base CX0 1 f fd ["number", "base"] (sp_factor K) := by
  refine F.ok sc_factor (fun vs H Q E h => ?_) (fun cdv A outer s H vs Q E hr h => ?_)
  · obtain ⟨_, _, rfl, _⟩ := h
    rfl
  · have S := sc_factor
    refine ⟨_, PSs.nox (pss_cons (ps_if (pt_cmpR op_eq (pv 1) (C8.pe_gc (by rfl) T.c_BYTE_BASE) (nomark _))
    (pss_one (ps_ret (pe_op op_add (pe_op op_mul pe_int (pv 0)) pe_int)))
    pss_nil)
    (pss_cons (ps_setLc (i := 2) (own := [("unit", 3)]) (g := gName 3) rfl S.nd rfl rfl (sw_true rfl rfl rfl (by decide +kernel)) (pi_range2 (by rfl) T.f_range (pa_cons pe_int (pa_cons (pv 1) pa_nil))) (blkOk_by (N := N_factor) (sc := defScope s_factor) (by decide +kernel)) (fun _ _ _ _ _ => (pg_name (i := 3) S.nd rfl (by first | exact .inl rfl | exact .inr rfl))) (fun _ _ _ _ _ => (pts_one (pt_cmpR op_eq (pe_callBfun cr_gcd (by rfl) T.b_gcd (pa_cons (pv 3) (pa_cons (pv 1) pa_nil))) pe_int (nomark _)))) (fun _ _ _ _ _ => (pv 3)))
    (pss_one (ps_ret (pe_op op_add (pe_op op_mul (pv 1) (pe_op op_fdivW (pv 0) (pe_callB call_len_seq (by rfl) T.f_len (by first | rfl | decide +kernel) (pa_cons (pv 2) pa_nil)))) (pe_ix ix_list (pv 2) (pe_op op_mod (pv 0) (pe_callB call_len_seq (by rfl) T.f_len (by first | rfl | decide +kernel) (pa_cons (pv 2) pa_nil))) (fun _ _ => rfl))))))), ?_⟩
    try dsimp only [cxOf, Cx.nox]
    obtain ⟨_, _, rfl, x, n, rfl, rfl, hn, hx, hx2, k⟩ := h
    rcases hn with rfl | rfl
    · walk_at "go"
      refine i_d (fun e => absurd e (by decide)) (fun _ => ?_)
      walk_at "go"
      intro D hD
      show LcB (Itr 1 65) _ _ _ _ _ _ _ _
      refine lc_filt (K := K) hD (by decide) (fun i => decide (Nat.gcd (1 + i) 66 = 1)) (fun i => .int (1 + (i : Nat))) (fun i H2 C E hi s2 hC hE => ?_) (fun H2 s2 e2 => ?_)
      · walk_at "go"
        refine ⟨_, _, rfl, ?_⟩
        walk_at "go"
        have en : ((1 : Int) + (i : Nat)).natAbs = 1 + i := by omega
        rw [en, show (66 : Int).natAbs = 66 from rfl]
        by_cases hg : Nat.gcd (1 + i) 66 = 1
        · rw [hg]
          refine i_d (fun _ => ?_) (fun e => absurd rfl e)
          walk_at "go"
          exact hC (decide_eq_true hg) H2 (Same.refl H2)
        · rw [decide_eq_false (show ¬ ((Nat.gcd (1 + i) 66 : Nat) : Int) = 1 by omega)]
          walk_at "go"
          exact hE (decide_eq_false hg) H2 (Same.refl H2)
      · rw [uns_eq] at e2
        have hS := SqL.of (K := K) e2
        walk_at "go"
        rw [show (uns.map V.int).length = 20 from rfl]
        walk_at "go"
        have at20 : atI (uns.map V.int) (x % 20) = some (.int (uns.getD (x % 20).toNat 0)) := by
          have h0 := Int.emod_nonneg x (show (20 : Int) ≠ 0 by decide)
          have h1 := Int.emod_lt_of_pos x (show (0 : Int) < 20 by decide)
          have hl : (x % 20).toNat < uns.length := by show _ < 20; omega
          exact at_of (j := (x % 20).toNat) (by omega) (by rw [List.getElem?_map, List.getD_eq_getElem?_getD, List.getElem?_eq_getElem hl]; rfl)
        refine e_ixL hS at20 ?_
        walk_at "go"
        exact k H2 s2
    · walk_at "go"
      refine i_d (fun e => ?_) (fun e => absurd rfl e)
      walk_at "go"
      exact k H (Same.refl H)
theorem ok_number (T : Txt K mg)   {f : Addr} {fd : FuncData} (F : FnP K "_number" s_number f fd) : FnOk P w K mg base CX0 1 f fd ["digits", "base"] (sp_number K) := by
  refine F.ok sc_number (fun vs H Q E h => ?_) (fun cdv A outer s H vs Q E hr h => ?_)
  · obtain ⟨_, _, rfl, _⟩ := h
    rfl
  · have S := sc_number
    refine ⟨_, PSs.nox (pss_cons (ps_set (i := 2) S.nd rfl (by first | exact .inl rfl | exact .inr rfl) pe_int)
    (pss_cons (ps_for PassesOwn.never rfl (pi_list (pv 0)) (pg_name (i := 3) S.nd rfl (by first | exact .inl rfl | exact .inr rfl))
    (pss_one (ps_set (i := 2) S.nd rfl (by first | exact .inl rfl | exact .inr rfl) (pe_op op_add (pe_op op_mul (pv 2) (pv 1)) (pv 3)))))
    (pss_one (ps_ret (pv 2))))), ?_⟩
    try dsimp only [cxOf, Cx.nox]
    obtain ⟨_, _, rfl, p, ds, n, rfl, rfl, hn, hS, k⟩ := h
    have hn2 : 0 < n ∧ n < 1000 := by rcases hn with rfl | rfl <;> decide
    walk_at "go"
    refine for_ints (ns := ds) (fun pre σ H1 => (∃ v, σ = [some (.ref p), some (.int n), some (.int (dnum n pre)), v]) ∧ H1 = H) ⟨⟨_, rfl⟩, rfl⟩ (fun pre σ H1 q => by rw [q.2]; exact hS) (fun pre x post σ H1 e q => ?_) (fun σ H1 q => ?_)
    · obtain ⟨⟨v, rfl⟩, rfl⟩ := q
      walk_at "go"
      refine ⟨⟨some (.int x), ?_⟩, rfl⟩
      rw [dnum_snoc]
      rfl
    · obtain ⟨⟨v, rfl⟩, rfl⟩ := q
      walk_at "go"
      exact k
theorem ok_turned_digits (T : Txt K mg)   {f : Addr} {fd : FuncData} (F : FnP K "_turned_digits" s_turned_digits f fd) : FnOk P w K mg base CX0 1 f fd ["number", "base", "count"] (sp_turned_digits K) := by
  refine F.ok sc_turned_digits (fun vs H Q E h => ?_) (fun cdv A outer s H vs Q E hr h => ?_)
  · obtain ⟨_, _, _, rfl, _⟩ := h
    rfl
  · have S := sc_turned_digits
    refine ⟨_, PSs.nox (pss_cons (ps_set (i := 3) S.nd rfl (by first | exact .inl rfl | exact .inr rfl) (pe_lst pa_nil))
    (pss_cons (ps_for PassesOwn.never rfl (pi_range1 (by rfl) T.f_range (pa_cons (pv 2) pa_nil)) (pg_name (i := 4) S.nd rfl (by first | exact .inl rfl | exact .inr rfl))
    (pss_cons (ps_expr (pe_bm PySem.F.plainAttrs_list PySem.F.slot_list_append PySem.F.type_list_append mt_append (pv 3) (pa_cons (pe_op op_mod (pv 0) (pv 1)) pa_nil)))
      (pss_one (ps_set (i := 0) S.nd rfl (by first | exact .inl rfl | exact .inr rfl) (pe_op op_fdivW (pv 0) (pv 1))))))
    (pss_one (ps_ret (pv 3))))), ?_⟩
    try dsimp only [cxOf, Cx.nox]
    obtain ⟨_, _, _, rfl, x, n, m, rfl, rfl, rfl, hn, hm, k⟩ := h
    have hn2 : 0 < n ∧ n < 1000 := by rcases hn with rfl | rfl <;> decide
    walk_at "go"
    rename_i p hp
    rw [show (((m : Nat) : Int)).toNat = m from rfl]
    refine for_rng (fun i σ H1 => (∃ v, σ = [some (.int (shr n i x)), some (.int n), some (.int m), some (.ref p), v]) ∧ Same H H1 ∧ H1 p = some (.lst ((low n i x).map V.int))) ⟨⟨none, rfl⟩, same_new hp, upd_same⟩ (fun i σ H1 hi q => ?_) (fun σ H1 q => ?_)
    · obtain ⟨⟨v, rfl⟩, s1, e1⟩ := q
      walk_at "go"
      refine e_app e1 (sz_of (by rw [List.length_map, low_len]; omega)) ?_
      walk_at "go"
      refine ⟨⟨_, rfl⟩, Same.mut s1 hp, ?_⟩
      rw [upd_same, low_snoc, List.map_append]
      rfl
    · obtain ⟨⟨v, rfl⟩, s1, e1⟩ := q
      walk_at "go"
      exact k p H1 hp s1 e1
theorem ok_power (T : Txt K mg)   {f : Addr} {fd : FuncData} (F : FnP K "_power" s_power f fd) : FnOk P w K mg base CX0 1 f fd ["base", "count"] (sp_power K) := by
  refine F.ok sc_power (fun vs H Q E h => ?_) (fun cdv A outer s H vs Q E hr h => ?_)
  · obtain ⟨_, _, rfl, _⟩ := h
    rfl
  · have S := sc_power
    refine ⟨_, PSs.nox (pss_cons (ps_set (i := 2) S.nd rfl (by first | exact .inl rfl | exact .inr rfl) pe_int)
    (pss_cons (ps_for PassesOwn.never rfl (pi_range1 (by rfl) T.f_range (pa_cons (pv 1) pa_nil)) (pg_name (i := 3) S.nd rfl (by first | exact .inl rfl | exact .inr rfl))
    (pss_one (ps_set (i := 2) S.nd rfl (by first | exact .inl rfl | exact .inr rfl) (pe_op op_mul (pv 2) (pv 0)))))
    (pss_one (ps_ret (pv 2))))), ?_⟩
    try dsimp only [cxOf, Cx.nox]
    obtain ⟨_, _, rfl, n, m, rfl, rfl, hn, hm, k⟩ := h
    have hn2 : 0 < n ∧ n < 1000 := by rcases hn with rfl | rfl <;> decide
    walk_at "go"
    rw [show (((m : Nat) : Int)).toNat = m from rfl]
    refine for_rng (fun i σ H1 => (∃ v, σ = [some (.int n), some (.int m), some (.int (n ^ i)), v]) ∧ H1 = H) ⟨⟨none, by rw [Int.pow_zero]; rfl⟩, rfl⟩ (fun i σ H1 hi q => ?_) (fun σ H1 q => ?_)
    · obtain ⟨⟨v, rfl⟩, rfl⟩ := q
      walk_at "go"
      refine ⟨⟨some (.int (0 + (i : Nat))), ?_⟩, rfl⟩
      rw [Int.pow_succ]
      rfl
    · obtain ⟨⟨v, rfl⟩, rfl⟩ := q
      walk_at "go"
      exact k
theorem ok_inverse (T : Txt K mg)   {f : Addr} {fd : FuncData} (F : FnP K "_inverse" s_inverse f fd) : FnOk P w K mg base CX0 1 f fd ["number", "whole"] (sp_inverse K) := by
  refine F.ok sc_inverse (fun vs H Q E h => ?_) (fun cdv A outer s H vs Q E hr h => ?_)
  · obtain ⟨_, _, rfl, _⟩ := h
    rfl
  · have S := sc_inverse
    refine ⟨_, PSs.nox (pss_cons (ps_par (i := 2) (j := 3) (by rfl) S.nd rfl rfl (by decide) rfl rfl (pa_cons (pv 1) (pa_cons (pe_op op_mod (pv 0) (pv 1)) pa_nil)) (by rfl))
    (pss_cons (ps_asg (pe_tup (pa_cons pe_int (pa_cons pe_int pa_nil))) (pg_tup rfl (pgs_cons (pg_name (i := 4) S.nd rfl (by first | exact .inl rfl | exact .inr rfl)) (pgs_cons (pg_name (i := 5) S.nd rfl (by first | exact .inl rfl | exact .inr rfl)) pgs_nil))))
    (pss_cons (ps_while PassesOwn.never (pt_cmpR op_gt (pv 3) pe_int (nomark _))
    (pss_cons (ps_set (i := 6) S.nd rfl (by first | exact .inl rfl | exact .inr rfl) (pe_op op_fdivW (pv 2) (pv 3)))
      (pss_cons (ps_par (i := 2) (j := 3) (by rfl) S.nd rfl rfl (by decide) rfl rfl (pa_cons (pv 3) (pa_cons (pe_op op_sub (pv 2) (pe_op op_mulW (pv 6) (pv 3))) pa_nil)) (by rfl))
      (pss_one (ps_par (i := 4) (j := 5) (by rfl) S.nd rfl rfl (by decide) rfl rfl (pa_cons (pv 5) (pa_cons (pe_op op_sub (pv 4) (pe_op op_mulW (pv 6) (pv 5))) pa_nil)) (by rfl))))))
    (pss_one (ps_ret (pv 5)))))), ?_⟩
    try dsimp only [cxOf, Cx.nox]
    obtain ⟨_, _, rfl, n, w, rfl, rfl, hn, hw, hw2, hg, k⟩ := h
    walk_at "go"
    refine ⟨_, _, rfl, ?_⟩
    walk_at "go"
    rename_i t ht
    have s0 := same_new (o := .tup [.int 0, .int 1]) ht
    generalize upd H t (.tup [.int 0, .int 1]) = Hz at *
    refine ⟨fun m σ H1 => ∃ (la re lp p : Int) (v6 : Option V), σ = [some (.int n), some (.int w), some (.int la), some (.int re), some (.int lp), some (.int p), v6] ∧ H1 = Hz ∧ Eu n w la re lp p ∧ m = re.toNat, ⟨_, _, _, _, _, none, rfl, rfl, Eu.start hn hw hg, rfl⟩, fun m σ H1 q => ?_⟩
    obtain ⟨la, re, lp, p, v6, rfl, rfl, hE, rfl⟩ := q
    walk_at "go"
    refine i_d (fun h1 => ?_) (fun h1 => ?_)
    · obtain ⟨hE2, l0, l1⟩ := hE.step h1
      have hm := hE.m
      have ha := hE.abs
      have ha2 := hE2.abs
      have t0 : 0 ≤ la / re := Int.ediv_nonneg (by omega) (by omega)
      have t1 : la / re ≤ la := Int.ediv_le_self _ (by omega)
      refine ⟨fun σ' H' => ∃ (la re2 lp p : Int) (v6 : Option V), σ' = [some (.int n), some (.int w), some (.int la), some (.int re2), some (.int lp), some (.int p), v6] ∧ H' = H1 ∧ Eu n w la re2 lp p ∧ 0 ≤ re2 ∧ re2 < re, ?_, ?_⟩
      · rintro σ' H' ⟨la2, re2, lp2, p2, v2, rfl, rfl, hE3, h2, h3⟩
        exact ⟨re2.toNat, by omega, la2, re2, lp2, p2, v2, rfl, rfl, hE3, rfl⟩
      · walk_at "go"
        refine e_I (wide_div (b := 200) (by omega) (by omega) (by decide) (by decide)) ?_
        walk_at "go"
        refine e_I (wide_mul (a := 200) (b := 200) (by omega) (by omega) (by decide) (by decide) (by decide)) ?_
        walk_at "go"
        refine ⟨_, _, rfl, ?_⟩
        walk_at "go"
        refine e_I (wide_mul (a := 200) (b := 200) (by omega) (by omega) (by decide) (by decide) (by decide)) ?_
        walk_at "go"
        refine ⟨_, _, rfl, ?_⟩
        walk_at "go"
        exact ⟨_, _, _, _, _, rfl, rfl, hE2, l0, l1⟩
    · walk_at "go"
      exact k _ _ (hE.fin h1) hE.abs s0
theorem ok_is_integer (T : Txt K mg)   {f : Addr} {fd : FuncData} (F : FnP K "is_integer" s_is_integer f fd) : FnOk P w K mg base CX0 1 f fd ["value"] (sp_is_integer K) := by
  refine F.ok sc_is_integer (fun vs H Q E h => ?_) (fun cdv A outer s H vs Q E hr h => ?_)
  · obtain ⟨_, rfl, _⟩ := h
    rfl
  · have S := sc_is_integer
    refine ⟨_, PSs.nox (pss_one (ps_ret (pe_and (pe_callB call_isi (by rfl) T.f_isinstance (by first | rfl | decide +kernel) (pa_cons (pv 0) (pa_cons (pe_bltn (v := .ty "int") (by rfl) T.f_int (by first | rfl | decide +kernel) rfl) pa_nil))) (pe_one (pe_not (pe_callB call_isi (by rfl) T.f_isinstance (by first | rfl | decide +kernel) (pa_cons (pv 0) (pa_cons (pe_bltn (v := .ty "bool") (by rfl) T.f_bool (by first | rfl | decide +kernel) rfl) pa_nil)))))))), ?_⟩
    try dsimp only [cxOf, Cx.nox]
    obtain ⟨_, rfl, h⟩ := h
    rcases h with ⟨i, rfl, k⟩ | ⟨⟨b, rfl⟩, k⟩ | ⟨⟨z, rfl⟩, k⟩
    · walk_at "go"
      exact k
    · walk_at "go"
      exact k
    · walk_at "go"
      refine isi_si ?_
      walk_at "go"
      first | exact k | (refine i_F ?_; exact k)
theorem ok_is_key (T : Txt K mg)  (c_is_integer : Cal P w K mg base 1 "is_integer" (sp_is_integer K)) {f : Addr} {fd : FuncData} (F : FnP K "is_key" s_is_key f fd) : FnOk P w K mg base CX0 2 f fd ["value"] (sp_is_key K) := by
  refine F.ok sc_is_key (fun vs H Q E h => ?_) (fun cdv A outer s H vs Q E hr h => ?_)
  · obtain ⟨_, rfl, _⟩ := h
    rfl
  · have S := sc_is_key
    refine ⟨_, PSs.nox (pss_cons (ps_if (pw_or (pt_not (pt_val (pe_callB call_isi (by rfl) T.f_isinstance (by first | rfl | decide +kernel) (pa_cons (pv 0) (pa_cons (pe_bltn (v := .ty "tuple") (by rfl) T.f_tuple (by first | rfl | decide +kernel) rfl) pa_nil))))) (pw_or1 (pt_cmpR op_ne (pe_callB call_len_seq (by rfl) T.f_len (by first | rfl | decide +kernel) (pa_cons (pv 0) pa_nil)) (C8.pe_gc (by rfl) T.c__KEY_SIZE) (nomark _)))).pt
    (pss_one (ps_ret pe_bl))
    pss_nil)
    (pss_one (ps_ret (pe_callB (cr_all rfl) (by rfl) T.f_all (by first | rfl | decide +kernel) (pa_cons (pe_lc (own := [("part", 1)]) (g := gName 1) (tt := tYes) rfl S.nd (pi_tup (pv 0)) (blkOk_by (N := N_is_key) (sc := defScope s_is_key) (by decide +kernel)) (fun _ _ _ _ _ => (pg_name (i := 1) S.nd rfl (by first | exact .inl rfl | exact .inr rfl))) (fun _ _ _ _ _ => pts_nil) (fun _ _ _ _ _ => (pe_and (pe_c c_is_integer hr (by decide) (by rfl) (pa_cons (pv 1) pa_nil)) (pe_one (pe_chain op_le op_le pe_int (pv 1) (C8.pe_gc (by rfl) T.c__LARGEST)))))) pa_nil))))), ?_⟩
    try dsimp only [cxOf, Cx.nox]
    obtain ⟨_, rfl, h⟩ := h
    rcases h with ⟨h1, k⟩ | ⟨p, xs, rfl, hS, hl, hx, k⟩
    · rcases h1 with rfl | ⟨i, rfl⟩ | ⟨p, xs, rfl, e⟩
      · walk_at "go"
        refine isi_ty (.base .non) (b := false) (kit_ty (by decide +kernel)) ?_
        walk_at "go"
        exact k
      · walk_at "go"
        refine isi_ty (.base (.int i)) (b := false) (kit_ty (by decide +kernel)) ?_
        walk_at "go"
        exact k
      · walk_at "go"
        refine isi_ty (.base (.lst e)) (b := false) (kit_ty (by decide +kernel)) ?_
        walk_at "go"
        exact k
    · walk_at "go"
      refine i_nd (fun h8 => ?_) (fun h8 => ?_)
      · walk_at "go"
        have k2 := k H (Same.refl H)
        rw [decide_eq_false (show ¬ xs.length = 8 by omega)] at k2
        exact k2
      · walk_at "go"
        intro D hD
        refine lc_mapT (SqT.of hS) hD (by omega) (fun v => .bl (okInt v)) (fun x H2 C E hx2 s2 hC => ?_) (fun H2 s2 e2 => ?_)
        · rcases hx x hx2 with ⟨i, rfl⟩ | ⟨b, rfl⟩ | ⟨z, rfl⟩
          · walk_at "go"
            refine ⟨_, rfl, .inl ⟨i, rfl, ?_⟩⟩
            walk_at "go"
            have hC2 : C (.bl (decide (0 ≤ i) && decide (i ≤ 4294967295))) H2 := hC H2 (Same.refl H2)
            refine i_d (fun h0 => ?_) (fun h0 => ?_)
            · walk_at "go"
              rw [decide_eq_true h0, Bool.true_and] at hC2
              exact hC2
            · rw [decide_eq_false h0, Bool.false_and] at hC2
              exact hC2
          · walk_at "go"
            refine ⟨_, rfl, .inr (.inl ⟨⟨b, rfl⟩, ?_⟩)⟩
            walk_at "go"
            exact hC H2 (Same.refl H2)
          · walk_at "go"
            refine ⟨_, rfl, .inr (.inr ⟨⟨z, rfl⟩, ?_⟩)⟩
            walk_at "go"
            exact hC H2 (Same.refl H2)
        · walk_at "go"
          have k2 := k H2 s2
          rw [decide_eq_true (show xs.length = 8 by omega), Bool.true_and] at k2
          refine ⟨D, xs.map okInt, rfl, SqL.of (by rw [e2, List.map_map]; rfl), ?_⟩
          rw [List.all_map]
          exact k2
theorem ok_seal_name (T : Txt K mg)  (c_root_of : Cal P w K mg base 1 "root_of" (sp_root_of K)) (c_name_of : Cal P w K mg base 1 "_name_of" (sp_name_of K)) (c_mixed : Cal P w K mg base 2 "mixed" (sp_mixed K)) (c_digits_of : Cal P w K mg base 1 "_digits_of" (sp_digits_of K)) {f : Addr} {fd : FuncData} (F : FnP K "seal_name" s_seal_name f fd) : FnOk P w K mg base CX0 3 f fd ["name", "key"] (sp_seal_name K) := by
  refine F.ok sc_seal_name (fun vs H Q E h => ?_) (fun cdv A outer s H vs Q E hr h => ?_)
  · obtain ⟨_, _, rfl, _⟩ := h
    rfl
  · have S := sc_seal_name
    refine ⟨_, PSs.nox (pss_cons (ps_set (i := 2) S.nd rfl (by first | exact .inl rfl | exact .inr rfl) (pe_c c_root_of hr (by decide) (by rfl) (pa_cons (pv 0) pa_nil)))
    (pss_one (ps_ret (pe_op op_add_str (pe_c c_name_of hr (by decide) (by rfl) (pa_cons (pe_c c_mixed hr (by decide) (by rfl) (pa_cons (pe_c c_digits_of hr (by decide) (by rfl) (pa_cons (pv 2) pa_nil)) (pa_cons (C8.pe_gc (by rfl) T.c_NAME_BASE) (pa_cons (pv 1) pa_nil)))) pa_nil)) (pe_slice sl_str (pv 0) (po_some (pe_callB call_len_str (by rfl) T.f_len (by first | rfl | decide +kernel) (pa_cons (pv 2) pa_nil))) po_none))))), ?_⟩
    try dsimp only [cxOf, Cx.nox]
    obtain ⟨_, _, rfl, ds, ks, t, q, rfl, rfl, hT, hk, hd, ht, hl, k⟩ := h
    have hz : (nmS ds ++ t).length ≤ 1000 := by rw [len_app, nmS_len]; omega
    walk_at "go"
    refine ⟨_, rfl, ds, t, rfl, hd, ht, hl, fun H1 s1 => ?_⟩
    walk_at "go"
    refine ⟨_, rfl, ds, rfl, hd, by omega, fun p1 H2 h2 s2 e2 => ?_⟩
    walk_at "go"
    refine ⟨_, _, _, rfl, p1, q, 66, ds, ks, rfl, rfl, rfl, SqL.of e2, same_tup (s1.trans s2) hT, .inl rfl, hk, hd, by omega, fun p2 H3 h3 s3 e3 => ?_⟩
    walk_at "go"
    have m1 := mix_isD (.inl rfl : Base 66) ks hd
    have m2 := mix_len (.inl rfl : Base 66) ks hd
    refine ⟨_, rfl, p2, _, rfl, SqL.of e3, m1, by omega, fun H4 s4 => ?_⟩
    walk_at "go"
    refine ⟨_, rfl, sz_of (by rw [nmS_len]; omega), _, rfl, ?_⟩
    walk_at "go"
    rw [cut_name]
    refine ⟨_, _, rfl, rfl, sz_of (by rw [nmS_len]; omega), ?_⟩
    exact k _ (((s1.trans s2).trans s3).trans s4)
theorem ok_open_name (T : Txt K mg)  (c_root_of : Cal P w K mg base 1 "root_of" (sp_root_of K)) (c_name_of : Cal P w K mg base 1 "_name_of" (sp_name_of K)) (c_unmixed : Cal P w K mg base 2 "unmixed" (sp_unmixed K)) (c_digits_of : Cal P w K mg base 1 "_digits_of" (sp_digits_of K)) {f : Addr} {fd : FuncData} (F : FnP K "open_name" s_open_name f fd) : FnOk P w K mg base CX0 3 f fd ["name", "key"] (sp_open_name K) := by
  refine F.ok sc_open_name (fun vs H Q E h => ?_) (fun cdv A outer s H vs Q E hr h => ?_)
  · obtain ⟨_, _, rfl, _⟩ := h
    rfl
  · have S := sc_open_name
    refine ⟨_, PSs.nox (pss_cons (ps_set (i := 2) S.nd rfl (by first | exact .inl rfl | exact .inr rfl) (pe_c c_root_of hr (by decide) (by rfl) (pa_cons (pv 0) pa_nil)))
    (pss_one (ps_ret (pe_op op_add_str (pe_c c_name_of hr (by decide) (by rfl) (pa_cons (pe_c c_unmixed hr (by decide) (by rfl) (pa_cons (pe_c c_digits_of hr (by decide) (by rfl) (pa_cons (pv 2) pa_nil)) (pa_cons (C8.pe_gc (by rfl) T.c_NAME_BASE) (pa_cons (pv 1) pa_nil)))) pa_nil)) (pe_slice sl_str (pv 0) (po_some (pe_callB call_len_str (by rfl) T.f_len (by first | rfl | decide +kernel) (pa_cons (pv 2) pa_nil))) po_none))))), ?_⟩
    try dsimp only [cxOf, Cx.nox]
    obtain ⟨_, _, rfl, ds, ks, t, q, rfl, rfl, hT, hk, hd, ht, hl1, hl, hl2, k⟩ := h
    have hz : (nmS ds ++ t).length ≤ 1000 := by rw [len_app, nmS_len]; omega
    walk_at "go"
    refine ⟨_, rfl, ds, t, rfl, hd, ht, by omega, fun H1 s1 => ?_⟩
    walk_at "go"
    refine ⟨_, rfl, ds, rfl, hd, by omega, fun p1 H2 h2 s2 e2 => ?_⟩
    walk_at "go"
    refine ⟨_, _, _, rfl, p1, q, 66, ds, ks, rfl, rfl, rfl, SqL.of e2, same_tup (s1.trans s2) hT, .inl rfl, hk, hd, .inl ⟨rfl, hl⟩, hl1, fun es m1 m2 m3 p2 H3 h3 s3 e3 => ?_⟩
    walk_at "go"
    refine ⟨_, rfl, p2, _, rfl, SqL.of e3, m1, by omega, fun H4 s4 => ?_⟩
    walk_at "go"
    refine ⟨_, rfl, sz_of (by rw [nmS_len]; omega), _, rfl, ?_⟩
    walk_at "go"
    rw [cut_name]
    refine ⟨_, _, rfl, rfl, sz_of (by rw [nmS_len]; omega), ?_⟩
    exact k es _ m1 m2 m3 (((s1.trans s2).trans s3).trans s4)
theorem ok_digits_of (T : Txt K mg)   {f : Addr} {fd : FuncData} (F : FnP K "_digits_of" s_digits_of f fd) : FnOk P w K mg base CX0 1 f fd ["root"] (sp_digits_of K) := by
  refine F.ok sc_digits_of (fun vs H Q E h => ?_) (fun cdv A outer s H vs Q E hr h => ?_)
  · obtain ⟨_, rfl, _⟩ := h
    rfl
  · have S := sc_digits_of
    refine ⟨_, PSs.nox (pss_one (ps_ret (pe_lc (own := [("char", 1)]) (g := gName 1) (tt := tYes) rfl S.nd (pi_str (pv 0)) (blkOk_by (N := N_digits_of) (sc := defScope s_digits_of) (by decide +kernel)) (fun _ _ _ _ _ => (pg_name (i := 1) S.nd rfl (by first | exact .inl rfl | exact .inr rfl))) (fun _ _ _ _ _ => pts_nil) (fun _ _ _ _ _ => (pe_m1 PySem.F.slot_str_index PySem.F.type_str_index mt_idxS (C8.pe_gc (by rfl) T.c_CHARACTERS) (pv 1)))))), ?_⟩
    try dsimp only [cxOf, Cx.nox]
    obtain ⟨_, rfl, ds, rfl, hd, hl, k⟩ := h
    walk_at "go"
    intro D hD
    refine lc_str (fun pre H1 => Same H H1 ∧ H1 D = some (.lst ((ds.take pre.length).map V.int))) ⟨same_new hD, upd_same⟩ (fun pre c post H1 e q => ?_) (fun H1 q => ?_)
    · obtain ⟨s1, e1⟩ := q
      rw [nmS_tl] at e
      have hi : pre.length < ds.length := by
        have := congrArg List.length e
        rw [List.length_map, List.length_append, List.length_cons] at this
        omega
      have hc : c = letr ds[pre.length] := by
        have h2 : (ds.map letr)[pre.length]? = some c := by rw [e]; simp
        rw [List.getElem?_map, List.getElem?_eq_getElem hi] at h2
        exact (Option.some.inj h2).symm
      have hb := hd _ (List.getElem_mem hi)
      obtain ⟨k2, ek, ix⟩ := letr_index hb
      walk_at "go"
      refine ⟨_, _, k2, rfl, rfl, by rw [hc]; exact ix, ?_⟩
      refine ⟨_, e1, Nat.lt_of_le_of_lt (by rw [List.length_map, List.length_take]; omega : _ ≤ 1000) (by decide), Same.mut s1 hD, ?_⟩
      rw [upd_same, List.length_append, List.length_singleton, List.take_add_one, List.getElem?_eq_getElem hi, List.map_append, ← ek]
      rfl
    · obtain ⟨s1, e1⟩ := q
      refine k D H1 hD s1 ?_
      rw [e1, nmS_tl, List.length_map, List.take_length]
theorem ok_name_of (T : Txt K mg)   {f : Addr} {fd : FuncData} (F : FnP K "_name_of" s_name_of f fd) : FnOk P w K mg base CX0 1 f fd ["digits"] (sp_name_of K) := by
  refine F.ok sc_name_of (fun vs H Q E h => ?_) (fun cdv A outer s H vs Q E hr h => ?_)
  · obtain ⟨_, rfl, _⟩ := h
    rfl
  · have S := sc_name_of
    refine ⟨_, PSs.nox (pss_one (ps_ret (pe_join pe_str (pe_lc (own := [("digit", 1)]) (g := gName 1) (tt := tYes) rfl S.nd (pi_list (pv 0)) (blkOk_by (N := N_name_of) (sc := defScope s_name_of) (by decide +kernel)) (fun _ _ _ _ _ => (pg_name (i := 1) S.nd rfl (by first | exact .inl rfl | exact .inr rfl))) (fun _ _ _ _ _ => pts_nil) (fun _ _ _ _ _ => (pe_ix ix_str (C8.pe_gc (by rfl) T.c_CHARACTERS) (pv 1) (fun _ _ => rfl))))))), ?_⟩
    try dsimp only [cxOf, Cx.nox]
    obtain ⟨_, rfl, p, ds, rfl, hS, hd, hl, k⟩ := h
    walk_at "go"
    intro D hD
    refine lc_map_lst hS hD (by rw [List.length_map]; omega) (fun v => match v with | .int d => .str (oneS d) | _ => .non) (fun x H2 C E hx s2 hC => ?_) (fun H2 s2 e2 => ?_)
    · obtain ⟨d, hd2, rfl⟩ := List.mem_map.mp hx
      walk_at "go"
      refine e_ixS (by decide +kernel) (letr_at (hd d hd2)) ?_
      exact hC H2 (Same.refl H2)
    · have e3 : H2 D = some (.lst ((ds.map oneS).map V.str)) := by
        rw [e2, List.map_map, List.map_map]
        rfl
      refine ⟨_, D, ds.map oneS, rfl, rfl, .inl (SqL.of e3), ?_, ?_⟩
      · rw [one_sum, show (Str.ofString "").length = 0 by decide +kernel]
        omega
      · rw [join_one]
        exact k H2 s2
theorem ok_seal_blocks (T : Txt K mg)  (c_block_number : Cal P w K mg base 1 "block_number" (sp_block_number K)) (c_mixed : Cal P w K mg base 2 "mixed" (sp_mixed K)) (c_block_bytes : Cal P w K mg base 2 "block_bytes" (sp_block_bytes K)) {f : Addr} {fd : FuncData} (F : FnP K "_seal_blocks" s_seal_blocks f fd) : FnOk P w K mg base CX0 3 f fd ["blocks", "key"] (sp_seal_blocks K) := by
  refine F.ok sc_seal_blocks (fun vs H Q E h => ?_) (fun cdv A outer s H vs Q E hr h => ?_)
  · obtain ⟨_, _, rfl, _⟩ := h
    rfl
  · have S := sc_seal_blocks
    refine ⟨_, PSs.nox (pss_one (ps_ret (pe_callTy call_tuple_of (by rfl) T.f_tuple (by first | rfl | decide +kernel) (pa_cons (pe_lc (own := [("block", 2)]) (g := gName 2) (tt := tYes) rfl S.nd (pi_tup (pv 0)) (blkOk_by (N := N_seal_blocks) (sc := defScope s_seal_blocks) (by decide +kernel)) (fun _ _ _ _ _ => (pg_name (i := 2) S.nd rfl (by first | exact .inl rfl | exact .inr rfl))) (fun _ _ _ _ _ => pts_nil) (fun _ _ _ _ _ => (pe_c c_block_number hr (by decide) (by rfl) (pa_cons (pe_c c_mixed hr (by decide) (by rfl) (pa_cons (pe_c c_block_bytes hr (by decide) (by rfl) (pa_cons (pv 2) pa_nil)) (pa_cons (C8.pe_gc (by rfl) T.c_BYTE_BASE) (pa_cons (pv 1) pa_nil)))) pa_nil)))) pa_nil)))), ?_⟩
    try dsimp only [cxOf, Cx.nox]
    obtain ⟨_, _, rfl, p, q, cs, ks, rfl, rfl, hS, hc, hl, hT, hk, k⟩ := h
    walk_at "go"
    intro D hD
    refine lc_mapT hS hD (by rw [List.length_map, List.length_map]; omega) (fun v => match v with | .int n => .int (bnum (mix 256 ks (bbytes n))) | _ => .non) (fun x H2 C E hx s2 hC => ?_) (fun H2 s2 e2 => ?_)
    · rw [List.map_map] at hx
      obtain ⟨c, hcm, rfl⟩ := List.mem_map.mp hx
      have pc := hc c hcm
      have hC2 : ∀ H3, Same H2 H3 → C (.int (bnum (mix 256 ks c))) H3 := fun H3 s3 => by
        have := hC H3 s3
        dsimp only [Function.comp] at this
        rw [bbytes_bnum pc] at this
        exact this
      dsimp only [Function.comp]
      walk_at "go"
      refine ⟨_, rfl, _, rfl, by rw [bsize_bnum pc]; have := pc.h1; omega, fun r H3 hr s3 e3 => ?_⟩
      rw [bbytes_bnum pc] at e3
      walk_at "go"
      refine ⟨_, _, _, rfl, r, q, 256, c, ks, rfl, rfl, rfl, SqL.of e3, same_tup (s2.trans s3) hT, .inr rfl, hk, pc.b, by have := pc.h4; omega, fun r2 H4 hr2 s4 e4 => ?_⟩
      walk_at "go"
      exact ⟨_, rfl, r2, _, rfl, SqL.of e4, hC2 H4 (s3.trans s4)⟩
    · walk_at "go"
      refine ⟨D, _, rfl, .inl ⟨SqL.of e2, fun l hl2 => ?_⟩⟩
      refine k l _ (s2.free hl2) (s2.trans (same_new hl2)) ?_
      rw [upd_same]
      congr 2
      rw [List.map_map, List.map_map, List.map_map, List.map_map]
      refine List.map_congr_left fun c hcm => ?_
      dsimp only [Function.comp]
      rw [bbytes_bnum (hc c hcm)]
theorem ok_open_blocks (T : Txt K mg)  (c_block_number : Cal P w K mg base 1 "block_number" (sp_block_number K)) (c_unmixed : Cal P w K mg base 2 "unmixed" (sp_unmixed K)) (c_block_bytes : Cal P w K mg base 2 "block_bytes" (sp_block_bytes K)) {f : Addr} {fd : FuncData} (F : FnP K "_open_blocks" s_open_blocks f fd) : FnOk P w K mg base CX0 3 f fd ["blocks", "key"] (sp_open_blocks K) := by
  refine F.ok sc_open_blocks (fun vs H Q E h => ?_) (fun cdv A outer s H vs Q E hr h => ?_)
  · obtain ⟨_, _, rfl, _⟩ := h
    rfl
  · have S := sc_open_blocks
    refine ⟨_, PSs.nox (pss_one (ps_ret (pe_callTy call_tuple_of (by rfl) T.f_tuple (by first | rfl | decide +kernel) (pa_cons (pe_lc (own := [("block", 2)]) (g := gName 2) (tt := tYes) rfl S.nd (pi_tup (pv 0)) (blkOk_by (N := N_open_blocks) (sc := defScope s_open_blocks) (by decide +kernel)) (fun _ _ _ _ _ => (pg_name (i := 2) S.nd rfl (by first | exact .inl rfl | exact .inr rfl))) (fun _ _ _ _ _ => pts_nil) (fun _ _ _ _ _ => (pe_c c_block_number hr (by decide) (by rfl) (pa_cons (pe_c c_unmixed hr (by decide) (by rfl) (pa_cons (pe_c c_block_bytes hr (by decide) (by rfl) (pa_cons (pv 2) pa_nil)) (pa_cons (C8.pe_gc (by rfl) T.c_BYTE_BASE) (pa_cons (pv 1) pa_nil)))) pa_nil)))) pa_nil)))), ?_⟩
    try dsimp only [cxOf, Cx.nox]
    obtain ⟨_, _, rfl, p, q, cs, ks, rfl, rfl, hS, hc, hl, hT, hk, k⟩ := h
    walk_at "go"
    intro D hD
    refine lc_tup (K := K) (xs := (cs.map bnum).map V.int) (fun i H2 => Same H H2 ∧ ∃ es : List (List Int), (∀ c ∈ es, Piece c) ∧ es.map (mix 256 ks) = cs.take i ∧ H2 D = some (.lst ((es.map bnum).map V.int))) ⟨same_new hD, [], (fun _ h => nomatch h), rfl, upd_same⟩ (fun i H2 _ z => same_tup z.1 hS) (fun i x H2 hx z => ?_) (fun H2 z => ?_)
    · obtain ⟨s2, es, p1, p2, e2⟩ := z
      rw [List.map_map, List.getElem?_map] at hx
      obtain ⟨c, hcg, rfl⟩ := Option.map_eq_some_iff.mp hx
      have hcm := List.mem_of_getElem? hcg
      have pc := hc c hcm
      have le : es.length ≤ cs.length := by
        have := congrArg List.length p2
        rw [List.length_map, List.length_take] at this
        omega
      dsimp only [Function.comp]
      walk_at "go"
      refine ⟨_, rfl, _, rfl, by rw [bsize_bnum pc]; have := pc.h1; omega, fun r H3 hr s3 e3 => ?_⟩
      rw [bbytes_bnum pc] at e3
      walk_at "go"
      refine ⟨_, _, _, rfl, r, q, 256, c, ks, rfl, rfl, rfl, SqL.of e3, same_tup (s2.trans s3) hT, .inr rfl, hk, pc.b, .inr pc.h4, pc.h1, fun e q1 q2 q3 r2 H4 hr2 s4 e4 => ?_⟩
      have pe : Piece e := ⟨q1, by rw [q2]; exact pc.h1, by rw [q2]; exact pc.h4⟩
      walk_at "go"
      refine ⟨_, rfl, r2, _, rfl, SqL.of e4, ?_⟩
      refine ⟨_, (s3.trans s4) _ _ e2, Nat.lt_of_le_of_lt (by rw [List.length_map, List.length_map]; omega : _ ≤ 1000000) (by decide), Same.mut ((s2.trans s3).trans s4) hD, es ++ [e], ?_, ?_, ?_⟩
      · intro c2 h2
        rcases List.mem_append.mp h2 with h3 | h3
        · exact p1 c2 h3
        · rw [List.mem_singleton.mp h3]; exact pe
      · rw [List.map_append, p2, List.take_add_one, hcg]
        show _ ++ [mix 256 ks e] = _
        rw [q3]
        rfl
      · rw [upd_same, List.map_append, List.map_append]
        rfl
    · obtain ⟨s2, es, p1, p2, e2⟩ := z
      rw [List.length_map, List.length_map, List.take_length] at p2
      walk_at "go"
      refine ⟨D, _, rfl, .inl ⟨SqL.of e2, fun l hl2 => ?_⟩⟩
      exact k l _ es p1 p2 (s2.free hl2) (s2.trans (same_new hl2)) upd_same
theorem ok_seal_content (T : Txt K mg)  (c_joined : Cal P w K mg base 3 "joined" (sp_joined K)) (c_seal_blocks : Cal P w K mg base 3 "_seal_blocks" (sp_seal_blocks K)) (c_split : Cal P w K mg base 2 "split" (sp_split K)) {f : Addr} {fd : FuncData} (F : FnP K "seal_content" s_seal_content f fd) : FnOk P w K mg base CX0 4 f fd ["content", "key"] (sp_seal_content K) := by
  refine F.ok sc_seal_content (fun vs H Q E h => ?_) (fun cdv A outer s H vs Q E hr h => ?_)
  · obtain ⟨_, _, rfl, _⟩ := h
    rfl
  · have S := sc_seal_content
    refine ⟨_, PSs.nox (pss_one (ps_ret (pe_c c_joined hr (by decide) (by rfl) (pa_cons (pe_c c_seal_blocks hr (by decide) (by rfl) (pa_cons (pe_c c_split hr (by decide) (by rfl) (pa_cons (pv 0) pa_nil)) (pa_cons (pv 1) pa_nil))) pa_nil)))), ?_⟩
    try dsimp only [cxOf, Cx.nox]
    obtain ⟨_, _, rfl, p, q, xs, ks, rfl, rfl, hS, hb, hl, hT, hk, k⟩ := h
    walk_at "go"
    refine ⟨_, rfl, p, xs, rfl, hS, by omega, fun r H1 h1 s1 e1 => ?_⟩
    have hp := chunks_piece xs hb
    have hcl := chunks_len xs
    walk_at "go"
    refine ⟨_, _, rfl, r, q, chunks xs, ks, rfl, rfl, SqT.of e1, hp, by omega, same_tup s1 hT, hk, fun r2 H2 h2 s2 e2 => ?_⟩
    walk_at "go"
    have hp2 : ∀ c ∈ (chunks xs).map (mix 256 ks), Piece c := fun c h => by
      obtain ⟨d, hd, rfl⟩ := List.mem_map.mp h
      exact mix_piece (hp d hd)
    refine ⟨_, rfl, r2, _, rfl, .inr (SqT.of e2), by rw [List.length_map, List.length_map]; omega, fun n h => ?_, fun r3 H3 h3 s3 e3 => ?_⟩
    · obtain ⟨d, hd, rfl⟩ := List.mem_map.mp h
      rw [bsize_bnum (hp2 d hd)]
      have := (hp2 d hd).h1
      omega
    · rw [flat_bnum hp2, flat_map_map] at e3
      exact k r3 H3 ((s1.trans s2).free h3) ((s1.trans s2).trans s3) e3
theorem ok_open_content (T : Txt K mg)  (c_joined : Cal P w K mg base 3 "joined" (sp_joined K)) (c_open_blocks : Cal P w K mg base 3 "_open_blocks" (sp_open_blocks K)) (c_split : Cal P w K mg base 2 "split" (sp_split K)) {f : Addr} {fd : FuncData} (F : FnP K "open_content" s_open_content f fd) : FnOk P w K mg base CX0 4 f fd ["content", "key"] (sp_open_content K) := by
  refine F.ok sc_open_content (fun vs H Q E h => ?_) (fun cdv A outer s H vs Q E hr h => ?_)
  · obtain ⟨_, _, rfl, _⟩ := h
    rfl
  · have S := sc_open_content
    refine ⟨_, PSs.nox (pss_one (ps_ret (pe_c c_joined hr (by decide) (by rfl) (pa_cons (pe_c c_open_blocks hr (by decide) (by rfl) (pa_cons (pe_c c_split hr (by decide) (by rfl) (pa_cons (pv 0) pa_nil)) (pa_cons (pv 1) pa_nil))) pa_nil)))), ?_⟩
    try dsimp only [cxOf, Cx.nox]
    obtain ⟨_, _, rfl, p, q, xs, ks, rfl, rfl, hS, hb, hl, hT, hk, k⟩ := h
    walk_at "go"
    refine ⟨_, rfl, p, xs, rfl, hS, by omega, fun r H1 h1 s1 e1 => ?_⟩
    have hp := chunks_piece xs hb
    have hcl := chunks_len xs
    walk_at "go"
    refine ⟨_, _, rfl, r, q, chunks xs, ks, rfl, rfl, SqT.of e1, hp, by omega, same_tup s1 hT, hk, fun r2 H2 es p1 p2 h2 s2 e2 => ?_⟩
    walk_at "go"
    have hlen : es.map List.length = (chunks xs).map List.length := by
      rw [← p2, List.map_map]
      refine List.map_congr_left fun c hc => ?_
      exact (mix_len (.inr rfl : Base 256) ks (p1 c hc).b).symm
    have hsh := chunks_shape xs es hlen
    have hel : es.length = (chunks xs).length := by rw [← p2, List.length_map]
    refine ⟨_, rfl, r2, _, rfl, .inr (SqT.of e2), by rw [List.length_map]; omega, fun n h => ?_, fun r3 H3 h3 s3 e3 => ?_⟩
    · obtain ⟨d, hd, rfl⟩ := List.mem_map.mp h
      rw [bsize_bnum (p1 d hd)]
      have := (p1 d hd).h1
      omega
    · rw [flat_bnum p1] at e3
      refine k es.flatten ?_ ?_ ?_ r3 H3 ((s1.trans s2).free h3) ((s1.trans s2).trans s3) e3
      · intro b hb2
        obtain ⟨c, hc, hbc⟩ := List.mem_flatten.mp hb2
        exact (p1 c hc).b b hbc
      · rw [flat_len2 hlen, chunks_flat]
      · unfold mixC
        rw [hsh, ← flat_map_map, p2, chunks_flat]
theorem ok_law_draws (T : Txt K mg)   {f : Addr} {fd : FuncData} (F : FnP K "_law_draws" s_law_draws f fd) : FnOk P w K mg base CX0 1 f fd ["script"] (sp_law_draws K) := by
  refine F.ok sc_law_draws (fun vs H Q E h => ?_) (fun cdv A outer s H vs Q E hr h => ?_)
  · obtain ⟨_, rfl, _⟩ := h
    rfl
  · have S := sc_law_draws
    refine ⟨_, PSs.nox (pss_one (ps_ret (pe_lst (pa_cons (pe_callTy call_list_of (by rfl) T.f_list (by first | rfl | decide +kernel) (pa_cons (pv 0) pa_nil)) (pa_cons pe_int (pa_cons pe_int (pa_cons pe_int pa_nil))))))), ?_⟩
    try dsimp only [cxOf, Cx.nox]
    obtain ⟨_, rfl, sa, ns, rfl, hS, hl, k⟩ := h
    walk_at "go"
    intro l hl2
    walk_at "go"
    rename_i p hp
    have s1 := same_new (o := .lst (ns.map V.int)) hl2
    have s2 := same_new (o := .lst [V.ref l, V.int 0, V.int 0, V.int 1]) hp
    have np : l ≠ p := fun e => by
      rw [← e, upd_same] at hp
      cases hp
    exact k p l _ (s1.free hp) (s1.trans s2) ⟨⟨0, 0, 1, by decide, by decide, by decide, upd_same⟩, by rw [upd_ne np]; exact upd_same, np, hl⟩
theorem ok_law_draw (T : Txt K mg)   {f : Addr} {fd : FuncData} (F : FnP K "_law_draw" s_law_draw f fd) : FnOk P w K mg base CX0 1 f fd ["draws", "limit"] (sp_law_draw K) := by
  refine F.ok sc_law_draw (fun vs H Q E h => ?_) (fun cdv A outer s H vs Q E hr h => ?_)
  · obtain ⟨_, _, rfl, _⟩ := h
    rfl
  · have S := sc_law_draw
    refine ⟨_, PSs.nox (C8.pss_cut (ps_if (pw_and (pt_cmpR op_eq (pe_ix ix_list (pv 0) pe_int (fun _ _ => rfl)) pe_int (nomark _)) (pw_and1 (pt_cmpR op_lt (pe_ix ix_list (pv 0) pe_int (fun _ _ => rfl)) (pe_callB call_len_seq (by rfl) T.f_len (by first | rfl | decide +kernel) (pa_cons (pe_ix ix_list (pv 0) pe_int (fun _ _ => rfl)) pa_nil)) (nomark _)))).pt
    (pss_cons (ps_set (i := 2) S.nd rfl (by first | exact .inl rfl | exact .inr rfl) (pe_callB call_abs (by rfl) T.f_abs (by first | rfl | decide +kernel) (pa_cons (pe_callTy call_int1 (by rfl) T.f_int (by first | rfl | decide +kernel) (pa_cons (pe_ix ix_list (pe_ix ix_list (pv 0) pe_int (fun _ _ => rfl)) (pe_ix ix_list (pv 0) pe_int (fun _ _ => rfl)) (fun _ _ => rfl)) pa_nil)) pa_nil)))
      (pss_cons (ps_asg (pe_op op_add (pe_ix ix_list (pv 0) pe_int (fun _ _ => rfl)) pe_int) (pg_sub (pv 0) pe_int set_list))
      (C8.pss_cut (ps_if (pt_cmpR op_ge (pv 2) (pe_op op_pow pe_int pe_int) (nomark _))
      (pss_one (ps_asg (pv 2) (pg_sub (pv 0) pe_int set_list)))
      pss_nil)
      (pss_one (ps_asg (pe_op op_mod (pe_callTy call_int1 (by rfl) T.f_int (by first | rfl | decide +kernel) (pa_cons (pe_op op_add (pe_op op_add (pe_op op_mul (pe_ix ix_list (pv 0) pe_int (fun _ _ => rfl)) pe_int) (pv 2)) pe_int) pa_nil)) pe_int) (pg_sub (pv 0) pe_int set_list))))))
    pss_nil)
    (pss_cons (ps_if (pt_cmpR op_gt (pe_ix ix_list (pv 0) pe_int (fun _ _ => rfl)) pe_int (nomark _))
    (pss_cons (ps_set (i := 3) S.nd rfl (by first | exact .inl rfl | exact .inr rfl) (pe_op op_mod (pe_callTy call_int1 (by rfl) T.f_int (by first | rfl | decide +kernel) (pa_cons (pe_ix ix_list (pv 0) pe_int (fun _ _ => rfl)) pa_nil)) (pv 1)))
      (pss_cons (ps_asg (pe_op op_fdivW (pe_ix ix_list (pv 0) pe_int (fun _ _ => rfl)) (pv 1)) (pg_sub (pv 0) pe_int set_list))
      (pss_one (ps_ret (pv 3)))))
    pss_nil)
    (pss_cons (ps_asg (pe_op op_mod (pe_callTy call_int1 (by rfl) T.f_int (by first | rfl | decide +kernel) (pa_cons (pe_op op_add (pe_op op_mul (pe_ix ix_list (pv 0) pe_int (fun _ _ => rfl)) pe_int) pe_int) pa_nil)) pe_int) (pg_sub (pv 0) pe_int set_list))
    (pss_one (ps_ret (pe_op op_mod (pe_callTy call_int1 (by rfl) T.f_int (by first | rfl | decide +kernel) (pa_cons (pe_op op_fdivW (pe_ix ix_list (pv 0) pe_int (fun _ _ => rfl)) pe_int) pa_nil)) (pv 1))))))), ?_⟩
    try dsimp only [cxOf, Cx.nox]
    obtain ⟨_, _, rfl, st, sc, ns, n, rfl, rfl, d, hn0, hn1, k⟩ := h
    obtain ⟨ia, ib, ic, ha0, hb0, hc0, hs⟩ := d.s
    have h1 : ∀ (x y z : Int), 0 ≤ x → 0 ≤ y → 0 ≤ z → z < 2147483647 → Kp st H (upd H st (.lst [.ref sc, .int x, .int y, .int z])) ∧ Dw K st sc ns (upd H st (.lst [.ref sc, .int x, .int y, .int z])) := fun x y z hx hy hz hz2 =>
      have k1 : Kp st H (upd H st (.lst [.ref sc, .int x, .int y, .int z])) := Kp.put (Kp.refl st H)
      ⟨k1, d.kp k1 ⟨x, y, z, hx, hy, ⟨hz, hz2⟩, upd_same⟩⟩
    have hS : SqL K H sc (ns.map V.int) := SqL.of d.l
    have md : ∀ x : Int, 0 ≤ x % 2147483647 ∧ x % 2147483647 < 2147483647 := fun x => ⟨Int.emod_nonneg _ (by decide), Int.emod_lt_of_pos _ (by decide)⟩
    have md2 : ∀ x : Int, 0 ≤ x % 2147483629 ∧ x % 2147483629 < 2147483629 := fun x => ⟨Int.emod_nonneg _ (by decide), Int.emod_lt_of_pos _ (by decide)⟩
    refine e_cut (Mid := fun σ' H' => ∃ (v2 : Option V), σ' = [some (.ref st), some (.int n), v2, none] ∧ Kp st H H' ∧ Dw K st sc ns H') ?_ ?_
    · walk_at "go"
      refine e_ixL (SqL.of hs) rfl ?_
      walk_at "go"
      refine i_d (fun e1 => ?_) (fun e1 => ?_)
      · walk_at "go"
        refine e_ixL (SqL.of hs) rfl ?_
        walk_at "go"
        refine e_ixL (SqL.of hs) rfl ?_
        walk_at "go"
        refine i_d (fun e2 => ?_) (fun e2 => ?_)
        · obtain ⟨j, hj⟩ : ∃ j : Nat, ia = (j : Int) := ⟨ia.toNat, by omega⟩
          have hlt : j < ns.length := by rw [List.length_map] at e2; omega
          have hat : atI (ns.map V.int) ia = some (.int ns[j]) := at_of (j := j) (by omega) (by rw [List.getElem?_map, List.getElem?_eq_getElem hlt]; rfl)
          generalize ns[j] = x at hat
          walk_at "go"
          refine e_ixL (SqL.of hs) rfl ?_
          walk_at "go"
          refine e_ixL (SqL.of hs) rfl ?_
          walk_at "go"
          refine e_ixL hS hat ?_
          walk_at "go"
          have hcell : ∃ c : Int, 0 ≤ c ∧ c = (if x < 0 then -x else x) := ⟨_, by split <;> omega, rfl⟩
          obtain ⟨c, hc, ec⟩ := hcell
          rw [← ec]
          refine e_ixL (SqL.of hs) rfl ?_
          walk_at "go"
          refine e_setL hs rfl ?_
          refine e_cut (Mid := fun σ' H' => ∃ b : Int, 0 ≤ b ∧ σ' = [some (.ref st), some (.int n), some (.int c), none] ∧ H' = upd H st (.lst [.ref sc, .int (ia + 1), .int b, .int ic])) ?_ ?_
          · walk_at "go"
            refine i_d (fun e3 => ?_) (fun e3 => ?_)
            · walk_at "go"
              refine e_setL upd_same rfl ?_
              rw [upd_upd]
              exact ⟨c, hc, rfl, rfl⟩
            · walk_at "go"
              exact ⟨ib, hb0, rfl, rfl⟩
          · rintro σ' H' ⟨b, hb, rfl, rfl⟩
            walk_at "go"
            refine e_ixL (SqL.of upd_same) rfl ?_
            walk_at "go"
            refine e_setL upd_same rfl ?_
            rw [upd_upd]
            have hm := md (ic * 48271 + c + 13)
            obtain ⟨k1, d1⟩ := h1 (ia + 1) b _ (by omega) hb hm.1 hm.2
            exact ⟨_, rfl, k1, d1⟩
        · walk_at "go"
          exact ⟨_, rfl, Kp.refl _ _, d⟩
      · walk_at "go"
        exact ⟨_, rfl, Kp.refl _ _, d⟩
    · rintro σ' H' ⟨v2, rfl, k1, d1⟩
      obtain ⟨ja, jb, jc, hja, hjb, hjc, hs1⟩ := d1.s
      walk_at "go"
      refine e_ixL (SqL.of hs1) rfl ?_
      walk_at "go"
      refine i_d (fun e1 => ?_) (fun e1 => ?_)
      · walk_at "go"
        refine e_ixL (SqL.of hs1) rfl ?_
        walk_at "go"
        refine e_ixL (SqL.of hs1) rfl ?_
        walk_at "go"
        refine e_setL hs1 rfl ?_
        have hj2 : 0 ≤ jb / n := Int.ediv_nonneg hjb (by omega)
        have k2 : Kp st H (upd H' st (.lst [.ref sc, .int ja, .int (jb / n), .int jc])) := k1.put
        walk_at "go"
        exact k _ _ (Int.emod_nonneg _ (by omega)) (Int.emod_lt_of_pos _ hn0) k2 (d.kp k2 ⟨ja, jb / n, jc, hja, hj2, hjc, upd_same⟩)
      · walk_at "go"
        refine e_ixL (SqL.of hs1) rfl ?_
        walk_at "go"
        refine e_setL hs1 rfl ?_
        have hm := md2 (jc * 69621 + 7)
        have k2 : Kp st H (upd H' st (.lst [.ref sc, .int ja, .int jb, .int ((jc * 69621 + 7) % 2147483629)])) := k1.put
        walk_at "go"
        refine e_ixL (SqL.of upd_same) rfl ?_
        walk_at "go"
        exact k _ _ (Int.emod_nonneg _ (by omega)) (Int.emod_lt_of_pos _ hn0) k2 (d.kp k2 ⟨ja, jb, _, hja, hjb, ⟨hm.1, by omega⟩, upd_same⟩)
theorem ok_law_key (T : Txt K mg)  (c_law_draw : Cal P w K mg base 1 "_law_draw" (sp_law_draw K)) {f : Addr} {fd : FuncData} (F : FnP K "_law_key" s_law_key f fd) : FnOk P w K mg base CX0 2 f fd ["draws"] (sp_law_key K) := by
  refine F.ok sc_law_key (fun vs H Q E h => ?_) (fun cdv A outer s H vs Q E hr h => ?_)
  · obtain ⟨_, rfl, _⟩ := h
    rfl
  · have S := sc_law_key
    refine ⟨_, PSs.nox (pss_one (ps_ret (pe_callTy call_tuple_of (by rfl) T.f_tuple (by first | rfl | decide +kernel) (pa_cons (pe_lc (own := [("k", 1)]) (g := gName 1) (tt := tYes) rfl S.nd (pi_range1 (by rfl) T.f_range (pa_cons pe_int pa_nil)) (blkOk_by (N := N_law_key) (sc := defScope s_law_key) (by decide +kernel)) (fun _ _ _ _ _ => (pg_name (i := 1) S.nd rfl (by first | exact .inl rfl | exact .inr rfl))) (fun _ _ _ _ _ => pts_nil) (fun _ _ _ _ _ => (pe_ix (ixL K) (pe_lst (pa_cons pe_int (pa_cons pe_int (pa_cons pe_int (pa_cons (pe_c c_law_draw hr (by decide) (by rfl) (pa_cons (pv 0) (pa_cons pe_int pa_nil))) pa_nil))))) (pe_c c_law_draw hr (by decide) (by rfl) (pa_cons (pv 0) (pa_cons pe_int pa_nil))) (fun _ _ => rfl)))) pa_nil)))), ?_⟩
    try dsimp only [cxOf, Cx.nox]
    obtain ⟨_, rfl, st, sc, ns, rfl, d, k⟩ := h
    walk_at "go"
    intro D hD
    rw [show Int.toNat 8 = 8 from rfl]
    refine lc_dw d hD (by decide) (fun v => ∃ i, v = .int i ∧ (0 ≤ i ∧ i ≤ 4294967295)) (fun i H2 C E hi k2 d2 hC => ?_) (fun H2 xs k2 d2 e2 l2 h2 => ?_)
    · walk_at "go"
      refine ⟨_, _, rfl, st, sc, ns, _, rfl, rfl, d2, by decide, by decide, fun x H3 x0 x1 k3 d3 => ?_⟩
      walk_at "go"
      rename_i u hu
      refine ⟨_, _, rfl, st, sc, ns, _, rfl, rfl, d3.same (same_new hu), by decide, by decide, fun y H4 y0 y1 k4 d4 => ?_⟩
      walk_at "go"
      have nu := d3.free hu
      have e4 := k4 _ _ nu upd_same
      have kk : Kp st H2 H4 := (k3.trans (Kp.new hu)).trans k4
      have hy : y = 0 ∨ y = 1 ∨ y = 2 ∨ y = 3 := by omega
      rcases hy with rfl | rfl | rfl | rfl
      · exact e_ixL (SqL.of e4) rfl (hC _ _ kk d4 ⟨_, rfl, by omega⟩)
      · exact e_ixL (SqL.of e4) rfl (hC _ _ kk d4 ⟨_, rfl, by omega⟩)
      · exact e_ixL (SqL.of e4) rfl (hC _ _ kk d4 ⟨_, rfl, by omega⟩)
      · exact e_ixL (SqL.of e4) rfl (hC _ _ kk d4 ⟨_, rfl, by omega⟩)
    · obtain ⟨ks, rfl, hks⟩ := ints_of (n := 0) h2
      walk_at "go"
      rw [List.length_map] at l2
      refine ⟨D, _, rfl, .inl ⟨SqL.of e2, fun l hl2 => ?_⟩⟩
      exact k l ks _ (k2.free d2.some hl2) (k2.trans (Kp.new hl2)) (d2.same (same_new hl2)) upd_same ⟨l2, hks⟩
theorem ok_law_factor (T : Txt K mg)   {f : Addr} {fd : FuncData} (F : FnP K "_law_factor" s_law_factor f fd) : FnOk P w K mg base CX0 1 f fd ["base", "number"] (sp_law_factor K) := by
  refine F.ok sc_law_factor (fun vs H Q E h => ?_) (fun cdv A outer s H vs Q E hr h => ?_)
  · obtain ⟨_, _, rfl, _⟩ := h
    rfl
  · have S := sc_law_factor
    refine ⟨_, PSs.nox (pss_cons (ps_if (pt_cmpR op_eq (pv 0) pe_int (nomark _))
    (pss_one (ps_ret (pe_op op_add (pe_op op_mul pe_int (pv 1)) pe_int)))
    pss_nil)
    (pss_cons (ps_setLc (i := 2) (own := [("k", 3)]) (g := gName 3) rfl S.nd rfl rfl (sw_true rfl rfl rfl (by decide +kernel)) (pi_range2 (by rfl) T.f_range (pa_cons pe_int (pa_cons pe_int pa_nil))) (blkOk_by (N := N_law_factor) (sc := defScope s_law_factor) (by decide +kernel)) (fun _ _ _ _ _ => (pg_name (i := 3) S.nd rfl (by first | exact .inl rfl | exact .inr rfl))) (fun _ _ _ _ _ => (pts_one (pt_cmpR op_eq (pe_callB (lenSK K) (by rfl) T.f_len (by first | rfl | decide +kernel) (pa_cons (pe_lc (own := [("d", 4)]) (g := gName 4) rfl S.nd (pi_tupK K (pe_tup (pa_cons pe_int (pa_cons pe_int (pa_cons pe_int pa_nil))))) (blkOk_by (N := N_law_factor) (sc := ⟨.function, [(".0", .local), ("k", .cell), ("len", .globalImplicit)], false, false, []⟩) (by decide +kernel)) (fun _ _ _ _ _ => (pg_name (i := 4) S.nd rfl (by first | exact .inl rfl | exact .inr rfl))) (fun _ _ _ _ _ => (pts_one (pt_cmpR op_eq (pe_op op_mul (pe_op op_fdivW (pv 3) (pv 4)) (pv 4)) (pv 3) (nomark _)))) (fun _ _ _ _ _ => (pv 4))) pa_nil)) pe_int (nomark _)))) (fun _ _ _ _ _ => (pv 3)))
    (pss_one (ps_ret (pe_op op_add (pe_op op_mul pe_int (pe_op op_fdivW (pv 1) pe_int)) (pe_ix ix_list (pv 2) (pe_op op_mod (pe_callTy call_int1 (by rfl) T.f_int (by first | rfl | decide +kernel) (pa_cons (pv 1) pa_nil)) pe_int) (fun _ _ => rfl))))))), ?_⟩
    try dsimp only [cxOf, Cx.nox]
    obtain ⟨_, _, rfl, x, n, rfl, rfl, hn, hx, hx2, k⟩ := h
    rcases hn with rfl | rfl
    · walk_at "go"
      refine i_d (fun e => absurd e (by decide)) (fun _ => ?_)
      walk_at "go"
      intro D hD
      show LcB (Itr 1 65) _ _ _ _ _ _ _ _
      refine lc_filt (K := K) hD (by decide) (fun i => decide (cnt (1 + (i : Nat)) 3 = 0)) (fun i => .int (1 + (i : Nat))) (fun i H2 C E hi s2 hC hE => ?_) (fun H2 s2 e2 => ?_)
      · generalize hk : (1 : Int) + (i : Nat) = kk at *
        walk_at "go"
        rename_i p hp
        have s3 := same_new (o := .tup [.int 2, .int 3, .int 11]) hp
        have e3 : (upd H2 p (.tup [.int 2, .int 3, .int 11])) p = some (.tup [.int 2, .int 3, .int 11]) := upd_same
        generalize upd H2 p (.tup [.int 2, .int 3, .int 11]) = H3 at *
        intro D2 hD2
        refine lc_tup (K := K) (xs := [.int 2, .int 3, .int 11]) (fun j H4 => Same H3 H4 ∧ ∃ acc, H4 D2 = some (.lst acc) ∧ acc.length = cnt kk j) ⟨same_new hD2, [], upd_same, rfl⟩ (fun j H4 _ z => SqT.of (z.1 _ _ e3)) (fun j y H4 hy z => ?_) (fun H4 z => ?_)
        · obtain ⟨s4, acc, e4, l4⟩ := z
          have hz : acc.length < sizeLine := Nat.lt_of_le_of_lt (by rw [l4]; unfold cnt; repeat' split
                                                                    all_goals omega : acc.length ≤ 1000000) (by decide)
          match j, hy with
          | 0, hy =>
            cases hy
            walk_at "go"
            refine i_d (fun q1 => ?_) (fun q1 => ?_)
            · walk_at "go"
              exact ⟨acc, e4, hz, Same.mut s4 hD2, _, upd_same, by rw [List.length_append, l4]; rw [cnt1, if_pos q1]; rfl⟩
            · exact ⟨s4, acc, e4, by rw [l4]; rw [cnt1, if_neg q1]; rfl⟩
          | 1, hy =>
            cases hy
            walk_at "go"
            refine i_d (fun q1 => ?_) (fun q1 => ?_)
            · walk_at "go"
              exact ⟨acc, e4, hz, Same.mut s4 hD2, _, upd_same, by rw [List.length_append, l4]; rw [cnt2, if_pos q1]; rfl⟩
            · exact ⟨s4, acc, e4, by rw [l4]; rw [cnt2, if_neg q1]; rfl⟩
          | 2, hy =>
            cases hy
            walk_at "go"
            refine i_d (fun q1 => ?_) (fun q1 => ?_)
            · walk_at "go"
              exact ⟨acc, e4, hz, Same.mut s4 hD2, _, upd_same, by rw [List.length_append, l4]; rw [cnt3, if_pos q1]; rfl⟩
            · exact ⟨s4, acc, e4, by rw [l4]; rw [cnt3, if_neg q1]; rfl⟩
          | j + 3, hy => cases hy
        · obtain ⟨s4, acc, e4, l4⟩ := z
          walk_at "go"
          have l5 : acc.length = cnt kk 3 := l4
          by_cases hc : cnt kk 3 = 0
          · refine i_d (fun _ => ?_) (fun e => absurd (show ((acc.length : Nat) : Int) = 0 by omega) e)
            walk_at "go"
            exact hC (decide_eq_true hc) H4 (s3.trans s4)
          · refine i_d (fun e => absurd e (by omega)) (fun _ => ?_)
            exact hE (decide_eq_false hc) H4 (s3.trans s4)
      · rw [uns_eq2] at e2
        have hS := SqL.of (K := K) e2
        walk_at "go"
        have at20 : atI (uns.map V.int) (x % 20) = some (.int (uns.getD (x % 20).toNat 0)) := by
          have h0 := Int.emod_nonneg x (show (20 : Int) ≠ 0 by decide)
          have h1 := Int.emod_lt_of_pos x (show (0 : Int) < 20 by decide)
          have hl : (x % 20).toNat < uns.length := by show _ < 20; omega
          exact at_of (j := (x % 20).toNat) (by omega) (by rw [List.getElem?_map, List.getD_eq_getElem?_getD, List.getElem?_eq_getElem hl]; rfl)
        refine e_ixL hS at20 ?_
        walk_at "go"
        exact k H2 s2
    · walk_at "go"
      refine i_d (fun e => ?_) (fun e => absurd rfl e)
      walk_at "go"
      exact k H (Same.refl H)
theorem ok_law_mixed (T : Txt K mg)  (c_law_factor : Cal P w K mg base 1 "_law_factor" (sp_law_factor K)) {f : Addr} {fd : FuncData} (F : FnP K "_law_mixed" s_law_mixed f fd) : FnOk P w K mg base CX0 2 f fd ["number", "base", "digits", "key"] (sp_law_mixed K) := by
  refine F.ok sc_law_mixed (fun vs H Q E h => ?_) (fun cdv A outer s H vs Q E hr h => ?_)
  · obtain ⟨_, _, _, _, rfl, _⟩ := h
    rfl
  · have S := sc_law_mixed
    refine ⟨_, PSs.nox (pss_cons (ps_set (i := 4) S.nd rfl (by first | exact .inl rfl | exact .inr rfl) pe_int)
    (pss_cons (ps_for PassesOwn.never rfl (pi_range1 (by rfl) T.f_range (pa_cons (pv 2) pa_nil)) (pg_name (i := 5) S.nd rfl (by first | exact .inl rfl | exact .inr rfl))
    (pss_one (ps_set (i := 4) S.nd rfl (by first | exact .inl rfl | exact .inr rfl) (pe_op op_mul (pv 4) (pv 1)))))
    (pss_cons (ps_for PassesOwn.never rfl (pi_range1 (by rfl) T.f_range (pa_cons pe_int pa_nil)) (pg_name (i := 6) S.nd rfl (by first | exact .inl rfl | exact .inr rfl))
    (pss_cons (ps_set (i := 0) S.nd rfl (by first | exact .inl rfl | exact .inr rfl) (pe_op op_mod (pe_callTy call_int1 (by rfl) T.f_int (by first | rfl | decide +kernel) (pa_cons (pe_op op_add (pe_op op_mul (pv 0) (pe_c c_law_factor hr (by decide) (by rfl) (pa_cons (pv 1) (pa_cons (pe_ix ix_tup (pv 3) (pe_op op_mul pe_int (pv 6)) (fun _ _ => rfl)) pa_nil)))) (pe_ix ix_tup (pv 3) (pe_op op_add (pe_op op_mul pe_int (pv 6)) pe_int) (fun _ _ => rfl))) pa_nil)) (pv 4)))
      (pss_cons (ps_set (i := 7) S.nd rfl (by first | exact .inl rfl | exact .inr rfl) (pe_lst pa_nil))
      (pss_cons (ps_for PassesOwn.never rfl (pi_range1 (by rfl) T.f_range (pa_cons (pv 2) pa_nil)) (pg_name (i := 5) S.nd rfl (by first | exact .inl rfl | exact .inr rfl))
      (pss_cons (ps_expr (pe_bm PySem.F.plainAttrs_list PySem.F.slot_list_append PySem.F.type_list_append mt_append (pv 7) (pa_cons (pe_op op_mod (pe_callTy call_int1 (by rfl) T.f_int (by first | rfl | decide +kernel) (pa_cons (pv 0) pa_nil)) (pv 1)) pa_nil)))
        (pss_one (ps_set (i := 0) S.nd rfl (by first | exact .inl rfl | exact .inr rfl) (pe_op op_fdivW (pv 0) (pv 1))))))
      (pss_cons (ps_set (i := 0) S.nd rfl (by first | exact .inl rfl | exact .inr rfl) pe_int)
      (pss_one (ps_for PassesOwn.never rfl (pi_list (pv 7)) (pg_name (i := 8) S.nd rfl (by first | exact .inl rfl | exact .inr rfl))
      (pss_one (ps_set (i := 0) S.nd rfl (by first | exact .inl rfl | exact .inr rfl) (pe_op op_add (pe_op op_mul (pv 0) (pv 1)) (pv 8)))))))))))
    (pss_one (ps_ret (pv 0)))))), ?_⟩
    try dsimp only [cxOf, Cx.nox]
    obtain ⟨_, _, _, _, rfl, n, ds, ks, q, rfl, rfl, rfl, rfl, hn, hd, hl, hl2, hT, hk, k⟩ := h
    have hk8 : ks.length = 8 := hk.1
    have hn2 : 0 < n ∧ n < 1000 := by rcases hn with rfl | rfl <;> decide
    walk_at "go"
    rw [show (((ds.length : Nat) : Int)).toNat = ds.length from rfl]
    refine for_rng (fun i σ H1 => (∃ v, σ = [some (.int (dnum n ds)), some (.int n), some (.int ds.length), some (.ref q), some (.int (n ^ i)), v, none, none, none]) ∧ H1 = H) ⟨⟨none, by rw [Int.pow_zero]; rfl⟩, rfl⟩ (fun i σ H1 hi q => ?_) (fun σ H1 q => ?_)
    · obtain ⟨⟨v, rfl⟩, rfl⟩ := q
      walk_at "go"
      refine ⟨⟨some (.int (0 + (i : Nat))), ?_⟩, rfl⟩
      rw [Int.pow_succ]
      rfl
    · obtain ⟨⟨v, rfl⟩, rfl⟩ := q
      have pp := pw_pos hn2.1 ds.length
      walk_at "go"
      rw [show Int.toNat 4 = 4 from rfl]
      refine for_rng (fun i σ H2 => (∃ v5 v6 v7 v8, σ = [some (.int (dnum n (mixN n ks ds i))), some (.int n), some (.int ds.length), some (.ref q), some (.int (n ^ ds.length)), v5, v6, v7, v8]) ∧ Same H1 H2) ⟨⟨v, none, none, none, rfl⟩, Same.refl H1⟩ (fun i σ H2 hi z => ?_) (fun σ H2 z => ?_)
      · obtain ⟨⟨v5, v6, v7, v8, rfl⟩, s2⟩ := z
        obtain ⟨m1, m2⟩ := mixN_ok hn ks hd i
        have a1 : atI (ks.map V.int) (2 * (0 + (i : Nat))) = some (.int (ks.getD (2 * i) 0)) := key_at hk8 (by omega) (by omega)
        have a2 : atI (ks.map V.int) (2 * (0 + (i : Nat)) + 1) = some (.int (ks.getD (2 * i + 1) 0)) := key_at hk8 (by omega) (by omega)
        have hf := fac_lt hn (hk.nn (2 * i)) (hk.lt (2 * i))
        walk_at "go"
        refine e_ixT (same_tup s2 hT) a1 ?_
        walk_at "go"
        refine ⟨_, _, rfl, _, n, rfl, rfl, hn, hk.nn _, hk.lt _, fun H3 s3 => ?_⟩
        walk_at "go"
        refine e_ixT (same_tup (s2.trans s3) hT) a2 ?_
        walk_at "go"
        rename_i r hr
        have s4 := same_new (o := .lst []) hr
        have e4 : (upd H3 r (.lst [])) r = some (.lst []) := upd_same
        generalize upd H3 r (.lst []) = H4 at *
        rw [show (((ds.length : Nat) : Int)).toNat = ds.length from rfl]
        have ex : low n ds.length ((dnum n (mixN n ks ds i) * fac n (ks.getD (2 * i) 0) + ks.getD (2 * i + 1) 0) % n ^ ds.length) = mixN n ks ds (i + 1) := by
          rw [low_mod hn2.1]
          show _ = mst n (fac n (ks.getD (2 * i) 0)) (ks.getD (2 * i + 1) 0) (mixN n ks ds i)
          unfold mst
          rw [m2]
        generalize (dnum n (mixN n ks ds i) * fac n (ks.getD (2 * i) 0) + ks.getD (2 * i + 1) 0) % n ^ ds.length = x at *
        refine for_rng (fun j σ H5 => (∃ v5 v8, σ = [some (.int (shr n j x)), some (.int n), some (.int ds.length), some (.ref q), some (.int (n ^ ds.length)), v5, some (.int (0 + (i : Nat))), some (.ref r), v8]) ∧ Same H3 H5 ∧ H5 r = some (.lst ((low n j x).map V.int))) ⟨⟨_, _, rfl⟩, s4, e4⟩ (fun j σ H5 hj z => ?_) (fun σ H5 z => ?_)
        · obtain ⟨⟨v5, v8, rfl⟩, s5, e5⟩ := z
          walk_at "go"
          refine e_app e5 (sz_of (by rw [List.length_map, low_len]; omega)) ?_
          walk_at "go"
          refine ⟨⟨_, _, rfl⟩, Same.mut s5 hr, ?_⟩
          rw [upd_same, low_snoc, List.map_append]
          rfl
        · obtain ⟨⟨v5, v8, rfl⟩, s5, e5⟩ := z
          rw [ex] at e5
          walk_at "go"
          refine for_ints (ns := mixN n ks ds (i + 1)) (fun pre σ H6 => (∃ v8, σ = [some (.int (dnum n pre)), some (.int n), some (.int ds.length), some (.ref q), some (.int (n ^ ds.length)), v5, some (.int (0 + (i : Nat))), some (.ref r), v8]) ∧ H6 = H5) ⟨⟨_, rfl⟩, rfl⟩ (fun pre σ H6 z => by rw [z.2]; exact SqL.of e5) (fun pre y post σ H6 e z => ?_) (fun σ H6 z => ?_)
          · obtain ⟨⟨v8, rfl⟩, rfl⟩ := z
            walk_at "go"
            refine ⟨⟨some (.int y), ?_⟩, rfl⟩
            rw [dnum_snoc]
            rfl
          · obtain ⟨⟨v8, rfl⟩, rfl⟩ := z
            exact ⟨⟨_, _, _, _, rfl⟩, (s2.trans s3).trans s5⟩
      · obtain ⟨⟨v5, v6, v7, v8, rfl⟩, s2⟩ := z
        walk_at "go"
        exact k H2 s2
theorem ok_law_sealed_name (T : Txt K mg)  (c_law_mixed : Cal P w K mg base 2 "_law_mixed" (sp_law_mixed K)) {f : Addr} {fd : FuncData} (F : FnP K "_law_sealed_name" s_law_sealed_name f fd) : FnOk P w K mg base CX0 3 f fd ["name", "key"] (sp_law_sealed_name K) := by
  refine F.ok sc_law_sealed_name (fun vs H Q E h => ?_) (fun cdv A outer s H vs Q E hr h => ?_)
  · obtain ⟨_, _, rfl, _⟩ := h
    rfl
  · have S := sc_law_sealed_name
    refine ⟨_, PSs.nox (pss_cons (ps_set (i := 2) S.nd rfl (by first | exact .inl rfl | exact .inr rfl) pe_str)
    (pss_cons (ps_set (i := 3) S.nd rfl (by first | exact .inl rfl | exact .inr rfl) (pe_ix ix_list (pe_split (pv 0) pe_str) pe_int (fun _ _ => rfl)))
    (pss_cons (ps_set (i := 4) S.nd rfl (by first | exact .inl rfl | exact .inr rfl) pe_int)
    (pss_cons (ps_for PassesOwn.never rfl (pi_str (pv 3)) (pg_name (i := 5) S.nd rfl (by first | exact .inl rfl | exact .inr rfl))
    (pss_one (ps_set (i := 4) S.nd rfl (by first | exact .inl rfl | exact .inr rfl) (pe_op op_add (pe_op op_mul (pv 4) pe_int) (pe_m1 PySem.F.slot_str_index PySem.F.type_str_index mt_idxS (pv 2) (pv 5))))))
    (pss_cons (ps_set (i := 4) S.nd rfl (by first | exact .inl rfl | exact .inr rfl) (pe_c c_law_mixed hr (by decide) (by rfl) (pa_cons (pv 4) (pa_cons pe_int (pa_cons (pe_callB call_len_str (by rfl) T.f_len (by first | rfl | decide +kernel) (pa_cons (pv 3) pa_nil)) (pa_cons (pv 1) pa_nil))))))
    (pss_cons (ps_set (i := 6) S.nd rfl (by first | exact .inl rfl | exact .inr rfl) pe_str)
    (pss_cons (ps_for PassesOwn.never rfl (pi_str (pv 3)) (pg_name (i := 5) S.nd rfl (by first | exact .inl rfl | exact .inr rfl))
    (pss_cons (ps_set (i := 6) S.nd rfl (by first | exact .inl rfl | exact .inr rfl) (pe_op op_add_str (pe_ix ix_str (pv 2) (pe_op op_mod (pe_callTy call_int1 (by rfl) T.f_int (by first | rfl | decide +kernel) (pa_cons (pv 4) pa_nil)) pe_int) (fun _ _ => rfl)) (pv 6)))
      (pss_one (ps_set (i := 4) S.nd rfl (by first | exact .inl rfl | exact .inr rfl) (pe_op op_fdivW (pv 4) pe_int)))))
    (pss_one (ps_ret (pe_op op_add_str (pv 6) (pe_slice sl_str (pv 0) (po_some (pe_callB call_len_str (by rfl) T.f_len (by first | rfl | decide +kernel) (pa_cons (pv 3) pa_nil))) po_none))))))))))), ?_⟩
    try dsimp only [cxOf, Cx.nox]
    obtain ⟨_, _, rfl, ds, ks, t, q, rfl, rfl, hT, hk, hd, ht, hl, hl2, k⟩ := h
    have hz : (nmS ds ++ t).length ≤ 1000 := by rw [len_app, nmS_len]; omega
    walk_at "go"
    refine ⟨_, _, rfl, rfl, by decide +kernel, sz_of (by omega), fun p hp => ?_⟩
    obtain ⟨r, hr⟩ := split_name hd ht
    rw [hr]
    have s1 := same_new (o := .lst ((nmS ds :: r).map V.str)) hp
    have e1 : (upd H p (.lst ((nmS ds :: r).map V.str))) p = some (.lst ((nmS ds :: r).map V.str)) := upd_same
    generalize upd H p (.lst ((nmS ds :: r).map V.str)) = H1 at *
    walk_at "go"
    refine e_ixL (SqL.of e1) (at_of (j := 0) (by omega) rfl) ?_
    walk_at "go"
    refine for_str (fun pre σ H2 => (∃ v5, σ = [some (.str (nmS ds ++ t)), some (.ref q), some (.str (Str.ofString "-./0123456789ABCDEFGHIJKLMNOPQRSTUVWXYZ_abcdefghijklmnopqrstuvwxyz")), some (.str (nmS ds)), some (.int (dnum 66 (ds.take pre.length))), v5, none]) ∧ H2 = H1) ⟨⟨none, rfl⟩, rfl⟩ (fun pre c post σ H2 e z => ?_) (fun σ H2 z => ?_)
    · obtain ⟨⟨v5, rfl⟩, rfl⟩ := z
      rw [nmS_tl] at e
      have hi : pre.length < ds.length := by
        have := congrArg List.length e
        rw [List.length_map, List.length_append, List.length_cons] at this
        omega
      have hc : c = letr ds[pre.length] := by
        have h2 : (ds.map letr)[pre.length]? = some c := by rw [e]; simp
        rw [List.getElem?_map, List.getElem?_eq_getElem hi] at h2
        exact (Option.some.inj h2).symm
      have hb := hd _ (List.getElem_mem hi)
      obtain ⟨k2, ek, ix⟩ := letr_index2 hb
      walk_at "go"
      refine ⟨_, _, k2, rfl, rfl, by rw [hc]; exact ix, ?_⟩
      walk_at "go"
      refine ⟨⟨some (.str ⟨#[c]⟩), ?_⟩, rfl⟩
      rw [List.length_append, List.length_singleton, List.take_add_one, List.getElem?_eq_getElem hi]
      show _ = [_, _, _, _, some (V.int (dnum 66 (ds.take pre.length ++ [ds[pre.length]]))), _, _]
      rw [dnum_snoc, ← ek]
      rfl
    · obtain ⟨⟨v5, rfl⟩, rfl⟩ := z
      rw [nmS_tl, List.length_map, List.take_length]
      have m1 := mix_isD (.inl rfl : Base 66) ks hd
      have m2 := mix_len (.inl rfl : Base 66) ks hd
      walk_at "go"
      refine ⟨_, rfl, sz_of (by rw [nmS_len]; omega), ?_⟩
      walk_at "go"
      rw [nmS_len]
      refine ⟨_, _, _, _, rfl, 66, ds, ks, q, rfl, rfl, rfl, rfl, .inl rfl, hd, by omega, .inl ⟨rfl, hl⟩, same_tup s1 hT, hk, fun H3 s3 => ?_⟩
      generalize mix 66 ks ds = es at *
      walk_at "go"
      refine for_str (fun pre σ H4 => (∃ v5, σ = [some (.str (nmS ds ++ t)), some (.ref q), some (.str (Str.ofString "-./0123456789ABCDEFGHIJKLMNOPQRSTUVWXYZ_abcdefghijklmnopqrstuvwxyz")), some (.str (nmS ds)), some (.int (dnum 66 (es.take (ds.length - pre.length)))), v5, some (.str (nmS (es.drop (ds.length - pre.length))))]) ∧ H4 = H3) ⟨⟨v5, by rw [List.length_nil, Nat.sub_zero, ← m2, List.take_length, List.drop_length]; rfl⟩, rfl⟩ (fun pre c post σ H4 e z => ?_) (fun σ H4 z => ?_)
      · obtain ⟨⟨v5, rfl⟩, rfl⟩ := z
        have hi : pre.length < ds.length := by
          have := congrArg List.length e
          rw [nmS_tl, List.length_map, List.length_append, List.length_cons] at this
          omega
        obtain ⟨d, hd2, t1, t2⟩ := cut_at m2 hi
        have hb := m1 d hd2
        obtain ⟨q1, q2⟩ := dnum_mod (es.take (ds.length - (pre.length + 1))) (by decide : (0 : Int) < 66) hb
        rw [t1]
        walk_at "go"
        rw [q1]
        refine e_ixS (by decide +kernel) (letr_at2 hb) ?_
        walk_at "go"
        refine ⟨_, _, rfl, rfl, sz_of (by rw [nmS_len, List.length_drop]; show 1 + _ ≤ _; omega), ?_⟩
        rw [nm_cons, ← t2]
        walk_at "go"
        rw [q2]
        exact ⟨⟨some (.str ⟨#[c]⟩), by rw [List.length_append, List.length_singleton]; rfl⟩, rfl⟩
      · obtain ⟨⟨v5, rfl⟩, rfl⟩ := z
        rw [nmS_tl, List.length_map, Nat.sub_self, List.drop_zero]
        walk_at "go"
        refine ⟨_, rfl, sz_of (by rw [nmS_len]; omega), _, rfl, ?_⟩
        walk_at "go"
        rw [cut_name]
        refine ⟨_, _, rfl, rfl, sz_of (by rw [nmS_len]; omega), ?_⟩
        exact k _ (s1.trans s3)
theorem ok_law_sealed_content (T : Txt K mg)  (c_law_mixed : Cal P w K mg base 2 "_law_mixed" (sp_law_mixed K)) {f : Addr} {fd : FuncData} (F : FnP K "_law_sealed_content" s_law_sealed_content f fd) : FnOk P w K mg base CX0 3 f fd ["content", "key"] (sp_law_sealed_content K) := by
  refine F.ok sc_law_sealed_content (fun vs H Q E h => ?_) (fun cdv A outer s H vs Q E hr h => ?_)
  · obtain ⟨_, _, rfl, _⟩ := h
    rfl
  · have S := sc_law_sealed_content
    refine ⟨_, PSs.nox (pss_cons (ps_set (i := 2) S.nd rfl (by first | exact .inl rfl | exact .inr rfl) (pe_lst pa_nil))
    (pss_cons (ps_for PassesOwn.never rfl (pi_range3 (by rfl) T.f_range (pa_cons pe_int (pa_cons (pe_callB call_len_seq (by rfl) T.f_len (by first | rfl | decide +kernel) (pa_cons (pv 0) pa_nil)) (pa_cons pe_int pa_nil)))) (pg_name (i := 3) S.nd rfl (by first | exact .inl rfl | exact .inr rfl))
    (pss_cons (ps_set (i := 4) S.nd rfl (by first | exact .inl rfl | exact .inr rfl) (pe_slice sl_list (pv 0) (po_some (pv 3)) (po_some (pe_op op_add (pv 3) pe_int))))
      (pss_cons (ps_set (i := 5) S.nd rfl (by first | exact .inl rfl | exact .inr rfl) pe_int)
      (pss_cons (ps_for PassesOwn.never rfl (pi_list (pv 4)) (pg_name (i := 6) S.nd rfl (by first | exact .inl rfl | exact .inr rfl))
      (pss_one (ps_set (i := 5) S.nd rfl (by first | exact .inl rfl | exact .inr rfl) (pe_op op_add (pe_op op_mul (pv 5) pe_int) (pv 6)))))
      (pss_cons (ps_set (i := 5) S.nd rfl (by first | exact .inl rfl | exact .inr rfl) (pe_c c_law_mixed hr (by decide) (by rfl) (pa_cons (pv 5) (pa_cons pe_int (pa_cons (pe_callB call_len_seq (by rfl) T.f_len (by first | rfl | decide +kernel) (pa_cons (pv 4) pa_nil)) (pa_cons (pv 1) pa_nil))))))
      (pss_cons (ps_set (i := 7) S.nd rfl (by first | exact .inl rfl | exact .inr rfl) (pe_lst pa_nil))
      (pss_cons (ps_for PassesOwn.never rfl (pi_list (pv 4)) (pg_name (i := 6) S.nd rfl (by first | exact .inl rfl | exact .inr rfl))
      (pss_cons (ps_set (i := 7) S.nd rfl (by first | exact .inl rfl | exact .inr rfl) (pe_op op_cat (pe_lst (pa_cons (pe_op op_mod (pe_callTy call_int1 (by rfl) T.f_int (by first | rfl | decide +kernel) (pa_cons (pv 5) pa_nil)) pe_int) pa_nil)) (pv 7)))
        (pss_one (ps_set (i := 5) S.nd rfl (by first | exact .inl rfl | exact .inr rfl) (pe_op op_fdivW (pv 5) pe_int)))))
      (pss_one (ps_set (i := 2) S.nd rfl (by first | exact .inl rfl | exact .inr rfl) (pe_op op_cat (pv 2) (pv 7)))))))))))
    (pss_one (ps_ret (pv 2))))), ?_⟩
    try dsimp only [cxOf, Cx.nox]
    obtain ⟨_, _, rfl, p, q, xs, ks, rfl, rfl, hS, hb, hl, hT, hk, k⟩ := h
    walk_at "go"
    rename_i p0 hp0
    have s1 := same_new (o := .lst []) hp0
    have e1 : (upd H p0 (.lst [])) p0 = some (.lst []) := upd_same
    generalize upd H p0 (.lst []) = H1 at *
    refine ⟨_, _, rfl, .inl (s1.seq hS), ?_⟩
    walk_at "go"
    rw [List.length_map]
    refine ⟨_, _, _, _, rfl, range4 (by omega) (by omega), ?_⟩
    rw [Int.toNat_natCast]
    have hcl := chunks_len xs
    refine for_rangeC (fun i σ H2 => (∃ (r : Addr) (v3 v4 v5 v6 v7 : Option V), σ = [some (.ref p), some (.ref q), some (.ref r), v3, v4, v5, v6, v7] ∧ H r = none ∧ H2 r = some (.lst ((((chunks xs).take i).flatMap (mix 256 ks)).map V.int))) ∧ Same H H2) ⟨⟨p0, none, none, none, none, none, rfl, hp0, e1⟩, s1⟩ (fun i σ H2 hi z => ?_) (fun σ H2 z => ?_)
    · obtain ⟨⟨r, v3, v4, v5, v6, v7, rfl, hr, er⟩, s2⟩ := z
      have hg := chunks_get xs i (by omega)
      have pc := chunks_piece xs hb _ (List.mem_of_getElem? hg)
      walk_at "go"
      refine e_slL (s2.seq hS) fun u hu => ?_
      rw [cut_chunk]
      generalize (xs.drop (4 * i)).take 4 = c at *
      have s3 := same_new (o := .lst (c.map V.int)) hu
      have e3 : (upd H2 u (.lst (c.map V.int))) u = some (.lst (c.map V.int)) := upd_same
      generalize upd H2 u (.lst (c.map V.int)) = H3 at *
      have m1 := mix_isD (.inr rfl : Base 256) ks pc.b
      have m2 := mix_len (.inr rfl : Base 256) ks pc.b
      have c4 := pc.h4
      have hfl : (((chunks xs).take i).flatMap (mix 256 ks)).length ≤ 5000 := by
        have := mix_flat_len (ks := ks) (cs := (chunks xs).take i) fun d hd => chunks_piece xs hb d (List.mem_of_mem_take hd)
        rw [List.length_take] at this
        omega
      walk_at "go"
      refine for_ints (ns := c) (fun pre σ H4 => (∃ v6, σ = [some (.ref p), some (.ref q), some (.ref r), some (.int (0 + (i : Nat) * 4)), some (.ref u), some (.int (dnum 256 pre)), v6, v7]) ∧ H4 = H3) ⟨⟨_, rfl⟩, rfl⟩ (fun pre σ H4 z => by rw [z.2]; exact SqL.of e3) (fun pre y post σ H4 e z => ?_) (fun σ H4 z => ?_)
      · obtain ⟨⟨v6, rfl⟩, rfl⟩ := z
        walk_at "go"
        refine ⟨⟨some (.int y), ?_⟩, rfl⟩
        rw [dnum_snoc]
        rfl
      · obtain ⟨⟨v6, rfl⟩, rfl⟩ := z
        walk_at "go"
        rw [List.length_map]
        refine ⟨_, _, _, _, rfl, 256, c, ks, q, rfl, rfl, rfl, rfl, .inr rfl, pc.b, by omega, .inr c4, same_tup (s2.trans s3) hT, hk, fun H5 s5 => ?_⟩
        have er5 := (s3.trans s5) _ _ er
        have eu5 := s5 _ _ e3
        have sA := (s2.trans s3).trans s5
        walk_at "go"
        rename_i w hw
        have s6 := same_new (o := .lst []) hw
        have e6 : (upd H5 w (.lst [])) w = some (.lst []) := upd_same
        generalize upd H5 w (.lst []) = H6 at *
        have eu6 := s6 _ _ eu5
        walk_at "go"
        refine for_ints (ns := c) (fun pre σ H7 => (∃ (w : Addr) (v6 : Option V), σ = [some (.ref p), some (.ref q), some (.ref r), some (.int (0 + (i : Nat) * 4)), some (.ref u), some (.int (dnum 256 ((mix 256 ks c).take (c.length - pre.length)))), v6, some (.ref w)] ∧ H7 w = some (.lst (((mix 256 ks c).drop (c.length - pre.length)).map V.int))) ∧ Same H5 H7) ⟨⟨w, _, by rw [List.length_nil, Nat.sub_zero, ← m2, List.take_length]; rfl, by rw [List.length_nil, Nat.sub_zero, ← m2, List.drop_length]; exact e6⟩, s6⟩ (fun pre σ H7 z => SqL.of (z.2 _ _ eu5)) (fun pre y post σ H7 e z => ?_) (fun σ H7 z => ?_)
        · obtain ⟨⟨w, v6, rfl, ew⟩, s7⟩ := z
          have hi2 : pre.length < c.length := by
            have := congrArg List.length e
            rw [List.length_append, List.length_cons] at this
            omega
          obtain ⟨d, hd2, t1, t2⟩ := cut_at m2 hi2
          have hb2 := m1 d hd2
          obtain ⟨q1, q2⟩ := dnum_mod ((mix 256 ks c).take (c.length - (pre.length + 1))) (by decide : (0 : Int) < 256) hb2
          rw [t1]
          walk_at "go"
          rw [q1]
          rename_i z hz
          have s8 := same_new (o := .lst [.int d]) hz
          refine ⟨_, _, _, _, rfl, rfl, upd_same, s8 _ _ ew, sz_of (by rw [List.length_map, List.length_drop, List.length_singleton]; omega), fun l hl2 => ?_⟩
          have s9 := s8.trans (same_new (o := .lst ([.int d] ++ ((mix 256 ks c).drop (c.length - pre.length)).map V.int)) hl2)
          walk_at "go"
          rw [q2]
          refine ⟨⟨l, _, by rw [List.length_append, List.length_singleton]; rfl, ?_⟩, s7.trans s9⟩
          rw [List.length_append, List.length_singleton, t2]
          exact upd_same
        · obtain ⟨⟨w, v6, rfl, ew⟩, s7⟩ := z
          rw [Nat.sub_self, List.drop_zero] at ew
          have er7 := s7 _ _ er5
          walk_at "go"
          refine ⟨_, _, _, _, rfl, rfl, er7, ew, sz_of (by rw [List.length_map, List.length_map]; omega), fun l hl2 => ?_⟩
          walk_at "go"
          refine ⟨⟨l, _, _, _, _, _, rfl, (sA.trans s7).free hl2, ?_⟩, (sA.trans s7).trans (same_new hl2)⟩
          rw [upd_same, List.take_add_one, hg, List.flatMap_append, List.map_append]
          show _ = some (HO.lst (_ ++ List.map V.int (mix 256 ks c ++ [])))
          rw [List.append_nil]
    · obtain ⟨⟨r, v3, v4, v5, v6, v7, rfl, hr, er⟩, s2⟩ := z
      rw [List.take_of_length_le (by omega)] at er
      walk_at "go"
      exact k r H2 hr s2 er
theorem ok_law_user_name (T : Txt K mg)  (c_law_draw : Cal P w K mg base 1 "_law_draw" (sp_law_draw K)) {f : Addr} {fd : FuncData} (F : FnP K "_law_user_name" s_law_user_name f fd) : FnOk P w K mg base CX0 2 f fd ["draws"] (sp_law_user_name K) := by
  refine F.ok sc_law_user_name (fun vs H Q E h => ?_) (fun cdv A outer s H vs Q E hr h => ?_)
  · obtain ⟨_, rfl, _⟩ := h
    rfl
  · have S := sc_law_user_name
    refine ⟨_, PSs.nox (pss_cons (ps_set (i := 1) S.nd rfl (by first | exact .inl rfl | exact .inr rfl) pe_str)
    (pss_cons (ps_set (i := 2) S.nd rfl (by first | exact .inl rfl | exact .inr rfl) (pe_ix ix_list (pe_lst (pa_cons pe_int (pa_cons pe_int (pa_cons pe_int (pa_cons pe_int (pa_cons pe_int pa_nil)))))) (pe_c c_law_draw hr (by decide) (by rfl) (pa_cons (pv 0) (pa_cons pe_int pa_nil))) (fun _ _ => rfl)))
    (pss_one (ps_ret (pe_join pe_str (pe_lc (own := [("k", 3)]) (g := gName 3) (tt := tYes) rfl S.nd (pi_range1 (by rfl) T.f_range (pa_cons (pv 2) pa_nil)) (blkOk_by (N := N_law_user_name) (sc := defScope s_law_user_name) (by decide +kernel)) (fun _ _ _ _ _ => (pg_name (i := 3) S.nd rfl (by first | exact .inl rfl | exact .inr rfl))) (fun _ _ _ _ _ => pts_nil) (fun _ _ _ _ _ => (pe_ix ix_str (pv 1) (pe_c c_law_draw hr (by decide) (by rfl) (pa_cons (pv 0) (pa_cons pe_int pa_nil))) (fun _ _ => rfl))))))))), ?_⟩
    try dsimp only [cxOf, Cx.nox]
    obtain ⟨_, rfl, st, sc, ns, rfl, d, k⟩ := h
    walk_at "go"
    rename_i u hu
    refine ⟨_, _, rfl, st, sc, ns, _, rfl, rfl, d.same (same_new hu), by decide, by decide, fun y H4 y0 y1 k4 d4 => ?_⟩
    have e4 := k4 _ _ (d.free hu) upd_same
    have kk : Kp st H H4 := (Kp.new hu).trans k4
    walk_at "go"
    obtain ⟨m, hm, hat⟩ := pick_int (l := [1, 2, 3, 8, 27]) y0 y1
    have m2 : 1 ≤ m ∧ m ≤ 27 := by
      have : ∀ x ∈ ([1, 2, 3, 8, 27] : List Int), 1 ≤ x ∧ x ≤ 27 := by decide
      exact this m hm
    refine e_ixL (SqL.of e4) hat ?_
    walk_at "go"
    intro D hD
    refine lc_dw d4 hD (by omega) (fun v => ∃ d, v = .str (oneS d) ∧ (0 ≤ d ∧ d < 66)) (fun i H2 C E hi k2 d2 hC => ?_) (fun H2 xs k2 d2 e2 l2 h2 => ?_)
    · walk_at "go"
      refine ⟨_, _, rfl, st, sc, ns, _, rfl, rfl, d2, by decide, by decide, fun x H3 x0 x1 k3 d3 => ?_⟩
      refine e_ixS (by decide +kernel) (letr_at2 ⟨x0, x1⟩) ?_
      exact hC _ _ k3 d3 ⟨x, rfl, x0, x1⟩
    · obtain ⟨ds, rfl, hds⟩ := strs_of h2
      rw [List.length_map, List.length_map] at l2
      refine ⟨_, D, ds.map oneS, rfl, rfl, .inl (SqL.of e2), ?_, ?_⟩
      · rw [one_sum, show (Str.ofString "").length = 0 by decide +kernel]
        omega
      · rw [join_one]
        exact k ds H2 hds (by omega) (by omega) (kk.trans k2) d2
theorem ok_law_any_name (T : Txt K mg)  (c_law_user_name : Cal P w K mg base 2 "_law_user_name" (sp_law_user_name K)) (c_law_draw : Cal P w K mg base 1 "_law_draw" (sp_law_draw K)) {f : Addr} {fd : FuncData} (F : FnP K "_law_any_name" s_law_any_name f fd) : FnOk P w K mg base CX0 3 f fd ["draws"] (sp_law_any_name K) := by
  refine F.ok sc_law_any_name (fun vs H Q E h => ?_) (fun cdv A outer s H vs Q E hr h => ?_)
  · obtain ⟨_, rfl, _⟩ := h
    rfl
  · have S := sc_law_any_name
    refine ⟨_, PSs.nox (pss_cons (ps_set (i := 1) S.nd rfl (by first | exact .inl rfl | exact .inr rfl) (pe_c c_law_user_name hr (by decide) (by rfl) (pa_cons (pv 0) pa_nil)))
    (C8.pss_cut (ps_if (pt_cmpR op_eq (pe_c c_law_draw hr (by decide) (by rfl) (pa_cons (pv 0) (pa_cons pe_int pa_nil))) pe_int (nomark _))
    (pss_one (ps_set (i := 1) S.nd rfl (by first | exact .inl rfl | exact .inr rfl) (pe_op op_add_str (pe_op op_add_str (pe_op op_add_str (pe_op op_add_str (pv 1) pe_str) (pe_callTy call_str_int (by rfl) T.f_str (by first | rfl | decide +kernel) (pa_cons (pe_op op_add pe_int (pe_c c_law_draw hr (by decide) (by rfl) (pa_cons (pv 0) (pa_cons pe_int pa_nil)))) pa_nil))) pe_str) (pe_callTy call_str_int (by rfl) T.f_str (by first | rfl | decide +kernel) (pa_cons (pe_op op_add pe_int (pe_c c_law_draw hr (by decide) (by rfl) (pa_cons (pv 0) (pa_cons pe_int pa_nil)))) pa_nil)))))
    pss_nil)
    (pss_one (ps_ret (pv 1))))), ?_⟩
    try dsimp only [cxOf, Cx.nox]
    obtain ⟨_, rfl, st, sc, ns, rfl, d, k⟩ := h
    walk_at "go"
    refine ⟨_, rfl, st, sc, ns, rfl, d, fun ds H1 hd h1 h2 k1 d1 => ?_⟩
    walk_at "go"
    refine e_cut (Mid := fun σ' H' => ∃ t, Tail t ∧ t.length ≤ 100 ∧ σ' = [some (.ref st), some (.str (nmS ds ++ t))] ∧ Kp st H H' ∧ Dw K st sc ns H') ?_ ?_
    · walk_at "go"
      refine ⟨_, _, rfl, st, sc, ns, _, rfl, rfl, d1, by decide, by decide, fun x H2 x0 x1 k2 d2 => ?_⟩
      walk_at "go"
      refine i_d (fun h0 => ?_) (fun h0 => ?_)
      · walk_at "go"
        refine ⟨_, _, rfl, rfl, sz_of (by rw [nmS_len, show (Str.ofString "~").length = 1 by decide +kernel]; omega), ?_⟩
        walk_at "go"
        refine ⟨_, _, rfl, st, sc, ns, _, rfl, rfl, d2, by decide, by decide, fun a H3 a0 a1 k3 d3 => ?_⟩
        walk_at "go"
        have la := num_len (i := 1 + a) (by omega) (by omega)
        refine ⟨lg1 (by omega) (by omega), ?_⟩
        refine ⟨_, _, rfl, rfl, sz_of (by rw [len_app, nmS_len, show (Str.ofString "~").length = 1 by decide +kernel]; omega), ?_⟩
        walk_at "go"
        refine ⟨_, _, rfl, rfl, sz_of (by rw [len_app, len_app, nmS_len, show (Str.ofString "~").length = 1 by decide +kernel, show (Str.ofString "-").length = 1 by decide +kernel]; omega), ?_⟩
        walk_at "go"
        refine ⟨_, _, rfl, st, sc, ns, _, rfl, rfl, d3, by decide, by decide, fun b H4 b0 b1 k4 d4 => ?_⟩
        walk_at "go"
        have lb := num_len (i := 1 + b) (by omega) (by omega)
        refine ⟨lg1 (by omega) (by omega), ?_⟩
        refine ⟨_, _, rfl, rfl, sz_of (by rw [len_app, len_app, len_app, nmS_len, show (Str.ofString "~").length = 1 by decide +kernel, show (Str.ofString "-").length = 1 by decide +kernel]; omega), ?_⟩
        walk_at "go"
        refine ⟨Str.ofString "~" ++ (Str.ofString (toString (1 + a)) ++ (Str.ofString "-" ++ Str.ofString (toString (1 + b)))), .inr ⟨_, rfl⟩, ?_, ?_, ((k1.trans k2).trans k3).trans k4, d4⟩
        · rw [len_app, len_app, len_app, show (Str.ofString "~").length = 1 by decide +kernel, show (Str.ofString "-").length = 1 by decide +kernel]
          omega
        · rw [← str_assoc, ← str_assoc, ← str_assoc]
          rfl
      · walk_at "go"
        exact ⟨Str.empty, .inl rfl, by decide, by rw [app_empty]; rfl, k1.trans k2, d2⟩
    · rintro σ' H' ⟨t, ht, hl, rfl, k2, d2⟩
      walk_at "go"
      exact k ds t H' hd h1 h2 ht hl k2 d2
theorem ok_law_bytes (T : Txt K mg)  (c_law_draw : Cal P w K mg base 1 "_law_draw" (sp_law_draw K)) {f : Addr} {fd : FuncData} (F : FnP K "_law_bytes" s_law_bytes f fd) : FnOk P w K mg base CX0 2 f fd ["draws"] (sp_law_bytes K) := by
  refine F.ok sc_law_bytes (fun vs H Q E h => ?_) (fun cdv A outer s H vs Q E hr h => ?_)
  · obtain ⟨_, rfl, _⟩ := h
    rfl
  · have S := sc_law_bytes
    refine ⟨_, PSs.nox (pss_cons (ps_set (i := 1) S.nd rfl (by first | exact .inl rfl | exact .inr rfl) (pe_ix ix_list (pe_lst (pa_cons pe_int (pa_cons pe_int (pa_cons pe_int (pa_cons pe_int (pa_cons pe_int (pa_cons pe_int (pa_cons pe_int (pa_cons pe_int (pa_cons pe_int pa_nil)))))))))) (pe_c c_law_draw hr (by decide) (by rfl) (pa_cons (pv 0) (pa_cons pe_int pa_nil))) (fun _ _ => rfl)))
    (pss_one (ps_ret (pe_lc (own := [("k", 2)]) (g := gName 2) (tt := tYes) rfl S.nd (pi_range1 (by rfl) T.f_range (pa_cons (pv 1) pa_nil)) (blkOk_by (N := N_law_bytes) (sc := defScope s_law_bytes) (by decide +kernel)) (fun _ _ _ _ _ => (pg_name (i := 2) S.nd rfl (by first | exact .inl rfl | exact .inr rfl))) (fun _ _ _ _ _ => pts_nil) (fun _ _ _ _ _ => (pe_ix (ixL K) (pe_lst (pa_cons pe_int (pa_cons pe_int (pa_cons (pe_c c_law_draw hr (by decide) (by rfl) (pa_cons (pv 0) (pa_cons pe_int pa_nil))) pa_nil)))) (pe_c c_law_draw hr (by decide) (by rfl) (pa_cons (pv 0) (pa_cons pe_int pa_nil))) (fun _ _ => rfl))))))), ?_⟩
    try dsimp only [cxOf, Cx.nox]
    obtain ⟨_, rfl, st, sc, ns, rfl, d, k⟩ := h
    walk_at "go"
    rename_i u hu
    refine ⟨_, _, rfl, st, sc, ns, _, rfl, rfl, d.same (same_new hu), by decide, by decide, fun y H4 y0 y1 k4 d4 => ?_⟩
    have e4 := k4 _ _ (d.free hu) upd_same
    have kk : Kp st H H4 := (Kp.new hu).trans k4
    walk_at "go"
    obtain ⟨m, hm, hat⟩ := pick_int (l := [0, 1, 2, 3, 4, 5, 7, 8, 13]) y0 y1
    have m2 : 0 ≤ m ∧ m ≤ 13 := by
      have : ∀ x ∈ ([0, 1, 2, 3, 4, 5, 7, 8, 13] : List Int), 0 ≤ x ∧ x ≤ 13 := by decide
      exact this m hm
    refine e_ixL (SqL.of e4) hat ?_
    walk_at "go"
    intro D hD
    refine lc_dw d4 hD (by omega) (fun v => ∃ i, v = .int i ∧ (0 ≤ i ∧ i < 256)) (fun i H2 C E hi k2 d2 hC => ?_) (fun H2 xs k2 d2 e2 l2 h2 => ?_)
    · walk_at "go"
      refine ⟨_, _, rfl, st, sc, ns, _, rfl, rfl, d2, by decide, by decide, fun x H3 x0 x1 k3 d3 => ?_⟩
      walk_at "go"
      rename_i w hw
      refine ⟨_, _, rfl, st, sc, ns, _, rfl, rfl, d3.same (same_new hw), by decide, by decide, fun z H5 z0 z1 k5 d5 => ?_⟩
      walk_at "go"
      have e5 := k5 _ _ (d3.free hw) upd_same
      have kk5 : Kp st H2 H5 := (k3.trans (Kp.new hw)).trans k5
      have hy : z = 0 ∨ z = 1 ∨ z = 2 := by omega
      rcases hy with rfl | rfl | rfl
      · exact e_ixL (SqL.of e5) rfl (hC _ _ kk5 d5 ⟨_, rfl, by omega⟩)
      · exact e_ixL (SqL.of e5) rfl (hC _ _ kk5 d5 ⟨_, rfl, by omega⟩)
      · exact e_ixL (SqL.of e5) rfl (hC _ _ kk5 d5 ⟨_, rfl, by omega⟩)
    · obtain ⟨bs, rfl, hbs⟩ := ints_of (n := 0) h2
      rw [List.length_map] at l2
      exact k D bs H2 hbs (by omega) (kk.free d4.some hD) (kk.trans k2) d2 e2
theorem ok_law (T : Txt K mg)  (c_law_draws : Cal P w K mg base 1 "_law_draws" (sp_law_draws K)) (c_law_key : Cal P w K mg base 2 "_law_key" (sp_law_key K)) (c_law_any_name : Cal P w K mg base 3 "_law_any_name" (sp_law_any_name K)) (c_law_draw : Cal P w K mg base 1 "_law_draw" (sp_law_draw K)) (c_law_bytes : Cal P w K mg base 2 "_law_bytes" (sp_law_bytes K)) (c_seal_name : Cal P w K mg base 3 "seal_name" (sp_seal_name K)) (c_open_name : Cal P w K mg base 3 "open_name" (sp_open_name K)) (c_law_sealed_name : Cal P w K mg base 3 "_law_sealed_name" (sp_law_sealed_name K)) (c_seal_content : Cal P w K mg base 4 "seal_content" (sp_seal_content K)) (c_open_content : Cal P w K mg base 4 "open_content" (sp_open_content K)) (c_law_sealed_content : Cal P w K mg base 3 "_law_sealed_content" (sp_law_sealed_content K)) (c_is_key : Cal P w K mg base 2 "is_key" (sp_is_key K)) {f : Addr} {fd : FuncData} (F : FnP K "law" s_law f fd) : FnOk P w K mg base CX0 5 f fd ["script"] (sp_law K) := by
  refine F.ok sc_law (fun vs H Q E h => ?_) (fun cdv A outer s H vs Q E hr h => ?_)
  · obtain ⟨_, rfl, _⟩ := h
    rfl
  · have S := sc_law
    refine ⟨_, PSs.nox (pss_cons (ps_set (i := 1) S.nd rfl (by first | exact .inl rfl | exact .inr rfl) (pe_c c_law_draws hr (by decide) (by rfl) (pa_cons (pv 0) pa_nil)))
    (pss_cons (ps_set (i := 2) S.nd rfl (by first | exact .inl rfl | exact .inr rfl) (pe_c c_law_key hr (by decide) (by rfl) (pa_cons (pv 1) pa_nil)))
    (pss_cons (ps_setLc (i := 3) (own := [("k", 11)]) (g := gName 11) (tt := tYes) rfl S.nd rfl rfl (sw_true rfl rfl rfl (by decide +kernel)) (pi_range1 (by rfl) T.f_range (pa_cons pe_int pa_nil)) (blkOk_by (N := N_law) (sc := defScope s_law) (by decide +kernel)) (fun _ _ _ _ _ => (pg_name (i := 11) S.nd rfl (by first | exact .inl rfl | exact .inr rfl))) (fun _ _ _ _ _ => pts_nil) (fun _ _ _ _ _ => (pe_c c_law_any_name hr (by decide) (by rfl) (pa_cons (pv 1) pa_nil))))
    (pss_cons (ps_set (i := 4) S.nd rfl (by first | exact .inl rfl | exact .inr rfl) (pe_ix ix_list (pe_split (pe_ix ix_list (pv 3) pe_int (fun _ _ => rfl)) pe_str) pe_int (fun _ _ => rfl)))
    (pss_cons (ps_expr (pe_bm PySem.F.plainAttrs_list PySem.F.slot_list_append PySem.F.type_list_append mt_append (pv 3) (pa_cons (pe_op op_add_str (pe_join pe_str (pe_lc (own := [("char", 12)]) (g := gName 12) (tt := tYes) rfl S.nd (pi_str (pv 4)) (blkOk_by (N := N_law) (sc := defScope s_law) (by decide +kernel)) (fun _ _ _ _ _ => (pg_name (i := 12) S.nd rfl (by first | exact .inl rfl | exact .inr rfl))) (fun _ _ _ _ _ => pts_nil) (fun _ _ _ _ _ => (pe_ix ix_str pe_str (pe_c c_law_draw hr (by decide) (by rfl) (pa_cons (pv 1) (pa_cons pe_int pa_nil))) (fun _ _ => rfl))))) (pe_slice sl_str (pe_ix ix_list (pv 3) pe_int (fun _ _ => rfl)) (po_some (pe_callB call_len_str (by rfl) T.f_len (by first | rfl | decide +kernel) (pa_cons (pv 4) pa_nil))) po_none)) pa_nil)))
    (pss_cons (ps_setLc (i := 5) (own := [("k", 11)]) (g := gName 11) (tt := tYes) rfl S.nd rfl rfl (sw_true rfl rfl rfl (by decide +kernel)) (pi_range1 (by rfl) T.f_range (pa_cons pe_int pa_nil)) (blkOk_by (N := N_law) (sc := defScope s_law) (by decide +kernel)) (fun _ _ _ _ _ => (pg_name (i := 11) S.nd rfl (by first | exact .inl rfl | exact .inr rfl))) (fun _ _ _ _ _ => pts_nil) (fun _ _ _ _ _ => (pe_c c_law_bytes hr (by decide) (by rfl) (pa_cons (pv 1) pa_nil))))
    (pss_cons (ps_expr (pe_bm PySem.F.plainAttrs_list PySem.F.slot_list_append PySem.F.type_list_append mt_append (pv 5) (pa_cons (pe_lc (own := [("byte", 13)]) (g := gName 13) (tt := tYes) rfl S.nd (pi_list (pe_ix ix_list (pv 5) pe_int (fun _ _ => rfl))) (blkOk_by (N := N_law) (sc := defScope s_law) (by decide +kernel)) (fun _ _ _ _ _ => (pg_name (i := 13) S.nd rfl (by first | exact .inl rfl | exact .inr rfl))) (fun _ _ _ _ _ => pts_nil) (fun _ _ _ _ _ => (pe_c c_law_draw hr (by decide) (by rfl) (pa_cons (pv 1) (pa_cons pe_int pa_nil))))) pa_nil)))
    (pss_cons (ps_for PassesOwn.never rfl (pi_list (pv 3)) (pg_name (i := 6) S.nd rfl (by first | exact .inl rfl | exact .inr rfl))
    (pss_cons (ps_set (i := 7) S.nd rfl (by first | exact .inl rfl | exact .inr rfl) (pe_c c_seal_name hr (by decide) (by rfl) (pa_cons (pv 6) (pa_cons (pv 2) pa_nil))))
      (pss_one (ps_if (pw_or (pt_cmpR op_ne (pv 7) (pe_c c_law_sealed_name hr (by decide) (by rfl) (pa_cons (pv 6) (pa_cons (pv 2) pa_nil))) (nomark _)) (pw_or (pt_cmpR op_ne (pe_c c_open_name hr (by decide) (by rfl) (pa_cons (pv 7) (pa_cons (pv 2) pa_nil))) (pv 6) (nomark _)) (pw_or1 (pt_cmpR op_ne (pe_c c_seal_name hr (by decide) (by rfl) (pa_cons (pe_c c_open_name hr (by decide) (by rfl) (pa_cons (pv 6) (pa_cons (pv 2) pa_nil))) (pa_cons (pv 2) pa_nil))) (pv 6) (nomark _))))).pt
      (pss_one (ps_ret pe_bl))
      pss_nil))))
    (pss_cons (ps_for PassesOwn.never rfl (pi_list (pv 5)) (pg_name (i := 8) S.nd rfl (by first | exact .inl rfl | exact .inr rfl))
    (pss_cons (ps_set (i := 9) S.nd rfl (by first | exact .inl rfl | exact .inr rfl) (pe_callTy call_list_of (by rfl) T.f_list (by first | rfl | decide +kernel) (pa_cons (pv 8) pa_nil)))
      (pss_cons (ps_set (i := 7) S.nd rfl (by first | exact .inl rfl | exact .inr rfl) (pe_c c_seal_content hr (by decide) (by rfl) (pa_cons (pv 8) (pa_cons (pv 2) pa_nil))))
      (pss_cons (ps_if (pw_or (pt_cmpR (op_neD hr.units) (pv 7) (pe_c c_law_sealed_content hr (by decide) (by rfl) (pa_cons (pv 8) (pa_cons (pv 2) pa_nil))) (nomark _)) (pw_or (pt_cmpR (op_neD hr.units) (pe_c c_open_content hr (by decide) (by rfl) (pa_cons (pv 7) (pa_cons (pv 2) pa_nil))) (pv 9) (nomark _)) (pw_or1 (pt_cmpR (op_neD hr.units) (pv 8) (pv 9) (nomark _))))).pt
      (pss_one (ps_ret pe_bl))
      pss_nil)
      (pss_one (ps_if (pt_cmpR (op_neD hr.units) (pe_c c_seal_content hr (by decide) (by rfl) (pa_cons (pe_c c_open_content hr (by decide) (by rfl) (pa_cons (pv 8) (pa_cons (pv 2) pa_nil))) (pa_cons (pv 2) pa_nil))) (pv 9) (nomark _))
      (pss_one (ps_ret pe_bl))
      pss_nil))))))
    (pss_cons (ps_if (pt_cmpR op_ne (pe_cmpR op_eq (pe_c c_seal_name hr (by decide) (by rfl) (pa_cons (pe_ix ix_list (pv 3) pe_int (fun _ _ => rfl)) (pa_cons (pv 2) pa_nil))) (pe_c c_seal_name hr (by decide) (by rfl) (pa_cons (pe_ix ix_list (pv 3) pe_int (fun _ _ => rfl)) (pa_cons (pv 2) pa_nil))) (nomark _)) (pe_cmpR op_eq (pe_ix ix_list (pv 3) pe_int (fun _ _ => rfl)) (pe_ix ix_list (pv 3) pe_int (fun _ _ => rfl)) (nomark _)) (nomark _))
    (pss_one (ps_ret pe_bl))
    pss_nil)
    (pss_cons (ps_if (pt_cmpR op_ne (pe_cmpR (op_eqD hr.units) (pe_c c_seal_content hr (by decide) (by rfl) (pa_cons (pe_ix ix_list (pv 5) pe_int (fun _ _ => rfl)) (pa_cons (pv 2) pa_nil))) (pe_c c_seal_content hr (by decide) (by rfl) (pa_cons (pe_ix ix_list (pv 5) pe_int (fun _ _ => rfl)) (pa_cons (pv 2) pa_nil))) (nomark _)) (pe_cmpR (op_eqD hr.units) (pe_ix ix_list (pv 5) pe_int (fun _ _ => rfl)) (pe_ix ix_list (pv 5) pe_int (fun _ _ => rfl)) (nomark _)) (nomark _))
    (pss_one (ps_ret pe_bl))
    pss_nil)
    (pss_cons (ps_set (i := 10) S.nd rfl (by first | exact .inl rfl | exact .inr rfl) (pe_lst (pa_cons pe_non (pa_cons pe_int (pa_cons (pe_tup pa_nil) (pa_cons (pe_slice sl_tupA (pv 2) po_none (po_some pe_int)) (pa_cons (pe_op op_catA (pv 2) (pe_tup (pa_cons pe_int pa_nil))) (pa_cons (pe_callTy call_list_of (by rfl) T.f_list (by first | rfl | decide +kernel) (pa_cons (pv 2) pa_nil)) (pa_cons (pe_op op_catA (pe_slice sl_tupA (pv 2) po_none (po_some pe_int)) (pe_tup (pa_cons (pe_un un_neg pe_int) pa_nil))) (pa_cons (pe_op op_catA (pe_slice sl_tupA (pv 2) po_none (po_some pe_int)) (pe_tup (pa_cons pe_int pa_nil))) (pa_cons (pe_op op_catA (pe_slice sl_tupA (pv 2) po_none (po_some pe_int)) (pe_tup (pa_cons pe_bl pa_nil))) (pa_cons (pe_op op_catA (pe_slice sl_tupA (pv 2) po_none (po_some pe_int)) (pe_tup (pa_cons pe_str pa_nil))) pa_nil))))))))))))
    (pss_one (ps_ret (pe_and (pe_cmpR op_is_bl (pe_c c_is_key hr (by decide) (by rfl) (pa_cons (pv 2) pa_nil)) pe_bl (nomark _)) (pe_one (pe_cmpR op_eq (pe_callB call_len_seq (by rfl) T.f_len (by first | rfl | decide +kernel) (pa_cons (pe_lc (own := [("value", 14)]) (g := gName 14) rfl S.nd (pi_list (pv 10)) (blkOk_by (N := N_law) (sc := defScope s_law) (by decide +kernel)) (fun _ _ _ _ _ => (pg_name (i := 14) S.nd rfl (by first | exact .inl rfl | exact .inr rfl))) (fun _ _ _ _ _ => (pts_one (pt_cmpR op_isnot_bl (pe_c c_is_key hr (by decide) (by rfl) (pa_cons (pv 14) pa_nil)) pe_bl (nomark _)))) (fun _ _ _ _ _ => (pv 14))) pa_nil)) pe_int (nomark _)))))))))))))))))), ?_⟩
    try dsimp only [cxOf, Cx.nox]
    obtain ⟨_, rfl, sa, ns, rfl, hS, hl, k⟩ := h
    walk_at "go"
    refine ⟨_, rfl, sa, ns, rfl, hS, hl, fun st sc H1 h1 s1 d1 => ?_⟩
    walk_at "go"
    refine ⟨_, rfl, st, sc, ns, rfl, d1, fun q ks H2 h2 k2 d2 e2 hk => ?_⟩
    walk_at "go"
    intro D hD
    rw [show Int.toNat 3 = 3 from rfl]
    refine lc_dw d2 hD (by decide) NmV (fun i H3 C E hi k3 d3 hC => ?_) (fun H3 xs k3 d3 e3 l3 h3 => ?_)
    · walk_at "go"
      refine ⟨_, rfl, st, sc, ns, rfl, d3, fun ds t H4 a1 a2 a3 a4 a5 k4 d4 => ?_⟩
      exact hC _ _ k4 d4 ⟨ds, t, rfl, a1, a2, a3, a4, a5⟩
    match xs, l3 with
    | [x0, x1, x2], _ =>
      obtain ⟨ds, t, rfl, ad, a1, a2, at_, a3⟩ := h3 x0 (by simp)
      have hz : (nmS ds ++ t).length ≤ 1000 := by rw [len_app, nmS_len]; omega
      have qst : q ≠ st := d1.free h2
      have q3 := k3 _ _ qst e2
      walk_at "go"
      refine e_ixL (SqL.of e3) (at_of (j := 0) (by omega) rfl) ?_
      walk_at "go"
      refine ⟨_, _, rfl, rfl, by decide +kernel, sz_of (by omega), fun p hp => ?_⟩
      obtain ⟨r, hr'⟩ := split_name ad at_
      rw [hr']
      have s4 := same_new (o := .lst ((nmS ds :: r).map V.str)) hp
      have e4 : (upd H3 p (.lst ((nmS ds :: r).map V.str))) p = some (.lst ((nmS ds :: r).map V.str)) := upd_same
      generalize upd H3 p (.lst ((nmS ds :: r).map V.str)) = H4 at *
      have e3' := s4 _ _ e3
      have q4 := s4 _ _ q3
      have d4 := d3.same s4
      walk_at "go"
      refine e_ixL (SqL.of e4) (at_of (j := 0) (by omega) rfl) ?_
      walk_at "go"
      intro D2 hD2
      refine lc_str (fun pre H5 => Kp st H4 H5 ∧ Dw K st sc ns H5 ∧ ∃ fs : List Int, H5 D2 = some (.lst ((fs.map oneS).map V.str)) ∧ isD 66 fs ∧ fs.length = pre.length) ⟨Kp.new hD2, d4.same (same_new hD2), [], upd_same, (fun _ h => nomatch h), rfl⟩ (fun pre c post H5 e z => ?_) (fun H5 z => ?_)
      · obtain ⟨k5, d5, fs, e5, f1, f2⟩ := z
        have lpre : pre.length ≤ 27 := by
          have := congrArg List.length e
          rw [nmS_tl, List.length_map, List.length_append, List.length_cons] at this
          omega
        walk_at "go"
        refine ⟨_, _, rfl, st, sc, ns, _, rfl, rfl, d5, by decide, by decide, fun a H6 b0 b1 k6 d6 => ?_⟩
        obtain ⟨f, hf, hat⟩ := abz_at ⟨b0, b1⟩
        refine e_ixS (by decide +kernel) hat ?_
        refine ⟨_, k6 _ _ (d4.free hD2) e5, Nat.lt_of_le_of_lt (by rw [List.length_map, List.length_map]; omega : _ ≤ 1000000) (by decide), (k5.trans k6).mut hD2, Dw.mut d4 d6 hD2 (k5.trans k6), fs ++ [f], ?_, ?_, by rw [List.length_append, List.length_append, f2]; rfl⟩
        · rw [upd_same, List.map_append, List.map_append]
          rfl
        · intro g hg
          rcases List.mem_append.mp hg with h | h
          · exact f1 g h
          · rw [List.mem_singleton.mp h]; exact hf
      · obtain ⟨k5, d5, fs, e5, f1, f2⟩ := z
        rw [nmS_tl, List.length_map] at f2
        refine ⟨_, D2, fs.map oneS, rfl, rfl, .inl (SqL.of e5), ?_, ?_⟩
        · rw [one_sum, show (Str.ofString "").length = 0 by decide +kernel]
          omega
        · rw [join_one]
          have Dst : D ≠ st := d2.free hD
          have e5n := k5 _ _ Dst e3'
          have q5 := k5 _ _ qst q4
          walk_at "go"
          refine e_ixL (SqL.of e5n) (at_of (j := 0) (by omega) rfl) ?_
          walk_at "go"
          refine ⟨_, rfl, sz_of (by rw [nmS_len]; omega), _, rfl, ?_⟩
          walk_at "go"
          rw [cut_name]
          refine ⟨_, _, rfl, rfl, sz_of (by rw [nmS_len]; omega), ?_⟩
          walk_at "go"
          refine e_app e5n (by show 3 < _; decide) ?_
          have qD : q ≠ D := fun e => by
            rw [e, e5n] at q5
            cases q5
          have k25 : Kp st H2 H5 := (k3.trans (Kp.of s4)).trans k5
          have d6 : Dw K st sc ns (upd H5 D (.lst ([V.str (nmS ds ++ t), x1, x2] ++ [V.str (nmS fs ++ t)]))) := Dw.mut d2 d5 hD k25
          have e6 : (upd H5 D (.lst ([V.str (nmS ds ++ t), x1, x2] ++ [V.str (nmS fs ++ t)]))) D = some (.lst [V.str (nmS ds ++ t), x1, x2, V.str (nmS fs ++ t)]) := upd_same
          have q6 : (upd H5 D (.lst ([V.str (nmS ds ++ t), x1, x2] ++ [V.str (nmS fs ++ t)]))) q = some (.tup (ks.map V.int)) := by rw [upd_ne qD]; exact q5
          generalize upd H5 D (.lst ([V.str (nmS ds ++ t), x1, x2] ++ [V.str (nmS fs ++ t)])) = H6 at *
          have hN : ∀ x ∈ [V.str (nmS ds ++ t), x1, x2, V.str (nmS fs ++ t)], NmV x := fun x hx => by
            have hx2 : x ∈ [V.str (nmS ds ++ t), x1, x2] ∨ x = V.str (nmS fs ++ t) := by
              simp only [List.mem_cons, List.not_mem_nil, or_false] at hx ⊢
              rcases hx with h | h | h | h
              · exact .inl (.inl h)
              · exact .inl (.inr (.inl h))
              · exact .inl (.inr (.inr h))
              · exact .inr h
            rcases hx2 with h | rfl
            · exact h3 x h
            · exact ⟨fs, t, rfl, f1, by omega, by omega, at_, a3⟩
          clear e5n q5 e5 k5 d5 k25 e3' q4 d4 s4 e4 hD2 hp hr' e3 q3 d3 k3 l3 h3
          walk_at "go"
          intro D3 hD3
          rw [show Int.toNat 3 = 3 from rfl]
          have D3st := d6.free hD3
          refine lc_rng (fun i H7 => Kp st H6 H7 ∧ Dw K st sc ns H7 ∧ ∃ ps : List (Addr × List Int), H7 D3 = some (.lst (ps.map fun z => V.ref z.1)) ∧ ps.length = i ∧ ∀ z ∈ ps, H7 z.1 = some (.lst (z.2.map V.int)) ∧ isB z.2 ∧ z.2.length ≤ 13 ∧ z.1 ≠ D3 ∧ z.1 ≠ st) ⟨Kp.new hD3, d6.same (same_new hD3), [], upd_same, rfl, (fun _ h => nomatch h)⟩ (fun i H7 hi z => ?_) (fun H7 z => ?_)
          · obtain ⟨k7, d7, ps, e7, l7, f7⟩ := z
            walk_at "go"
            refine ⟨_, rfl, st, sc, ns, rfl, d7, fun p xs H8 b1 b2 hp8 k8 d8 e8 => ?_⟩
            have pD3 : p ≠ D3 := fun e => by
              rw [e, e7] at hp8
              cases hp8
            have pst : p ≠ st := d7.free hp8
            refine ⟨_, k8 _ _ D3st e7, Nat.lt_of_le_of_lt (by rw [List.length_map]; omega : _ ≤ 1000000) (by decide), (k7.trans k8).mut hD3, Dw.mut d6 d8 hD3 (k7.trans k8), ps ++ [(p, xs)], by rw [upd_same, List.map_append]; rfl, by rw [List.length_append, l7]; rfl, fun z hz2 => ?_⟩
            rcases List.mem_append.mp hz2 with h | h
            · obtain ⟨g1, g2, g3, g4, g5⟩ := f7 z h
              exact ⟨by rw [upd_ne g4]; exact k8 _ _ g5 g1, g2, g3, g4, g5⟩
            · rw [List.mem_singleton.mp h]
              exact ⟨by rw [upd_ne pD3]; exact e8, b1, b2, pD3, pst⟩
          · obtain ⟨k7, d7, ps, e7, l7, f7⟩ := z
            match ps, l7 with
            | [(b0, c0), (b1, c1), (b2, c2)], _ =>
              obtain ⟨g01, g02, g03, g04, g05⟩ := f7 (b0, c0) (by simp)
              obtain ⟨g11, g12, g13, g14, g15⟩ := f7 (b1, c1) (by simp)
              obtain ⟨g21, g22, g23, g24, g25⟩ := f7 (b2, c2) (by simp)
              have Dst2 : D ≠ st := Dst
              have e7n := k7 _ _ Dst e6
              have q7 := k7 _ _ qst q6
              walk_at "go"
              refine e_ixL (SqL.of e7) (at_of (j := 0) (by omega) rfl) ?_
              walk_at "go"
              dsimp only at g01 g02 g03 g04 g05 g11 g12 g13 g14 g15 g21 g22 g23 g24 g25
              intro D4 hD4
              refine lc_lst (xs := c0.map V.int) (fun pre H8 => Kp st H7 H8 ∧ Dw K st sc ns H8 ∧ ∃ bs : List Int, H8 D4 = some (.lst (bs.map V.int)) ∧ isB bs ∧ bs.length = pre.length) ⟨Kp.new hD4, d7.same (same_new hD4), [], upd_same, (fun _ h => nomatch h), rfl⟩ (fun pre H8 z => SqL.of (z.1 _ _ g05 g01)) (fun pre y post H8 e z => ?_) (fun H8 z => ?_)
              · obtain ⟨k8, d8, bs, e8, m1, m2⟩ := z
                have lp : pre.length ≤ 13 := by
                  have := congrArg List.length e
                  rw [List.length_map, List.length_append, List.length_cons] at this
                  omega
                walk_at "go"
                refine ⟨_, _, rfl, st, sc, ns, _, rfl, rfl, d8, by decide, by decide, fun a H9 v0 v1 k9 d9 => ?_⟩
                refine ⟨_, k9 _ _ (d7.free hD4) e8, Nat.lt_of_le_of_lt (by rw [List.length_map]; omega : _ ≤ 1000000) (by decide), (k8.trans k9).mut hD4, Dw.mut d7 d9 hD4 (k8.trans k9), bs ++ [a], by rw [upd_same, List.map_append]; rfl, fun b hb2 => ?_, by rw [List.length_append, List.length_append, m2]; rfl⟩
                rcases List.mem_append.mp hb2 with h | h
                · exact m1 b h
                · rw [List.mem_singleton.mp h]; exact ⟨v0, v1⟩
              · obtain ⟨k8, d8, bs, e8, m1, m2⟩ := z
                rw [List.length_map] at m2
                have e7' := k8 _ _ D3st e7
                have nDD3 : D ≠ D3 := ne_of_none e6 hD3
                have nqD3 : q ≠ D3 := ne_of_none q6 hD3
                have nD3D4 : D4 ≠ D3 := (ne_of_none e7 hD4).symm
                walk_at "go"
                refine e_app e7' (by show 3 < _; decide) ?_
                have mk : ∀ (a : Addr) (zs : List Int), H7 a = some (.lst (zs.map V.int)) → a ≠ D3 → a ≠ st → (upd H8 D3 (.lst ([(b0, c0), (b1, c1), (b2, c2)].map (fun z => V.ref z.1) ++ [V.ref D4]))) a = some (.lst (zs.map V.int)) := fun a zs h n1 n2 => by
                  rw [upd_ne n1]
                  exact k8 _ _ n2 h
                have u0 := mk b0 c0 g01 g04 g05
                have u1 := mk b1 c1 g11 g14 g15
                have u2 := mk b2 c2 g21 g24 g25
                have u4 : (upd H8 D3 (.lst ([(b0, c0), (b1, c1), (b2, c2)].map (fun z => V.ref z.1) ++ [V.ref D4]))) D4 = some (.lst (bs.map V.int)) := by rw [upd_ne nD3D4]; exact e8
                have uC : (upd H8 D3 (.lst ([(b0, c0), (b1, c1), (b2, c2)].map (fun z => V.ref z.1) ++ [V.ref D4]))) D3 = some (.lst [V.ref b0, V.ref b1, V.ref b2, V.ref D4]) := upd_same
                have uN : (upd H8 D3 (.lst ([(b0, c0), (b1, c1), (b2, c2)].map (fun z => V.ref z.1) ++ [V.ref D4]))) D = some (.lst [V.str (nmS ds ++ t), x1, x2, V.str (nmS fs ++ t)]) := by rw [upd_ne nDD3]; exact k8 _ _ Dst e7n
                have uq : (upd H8 D3 (.lst ([(b0, c0), (b1, c1), (b2, c2)].map (fun z => V.ref z.1) ++ [V.ref D4]))) q = some (.tup (ks.map V.int)) := by rw [upd_ne nqD3]; exact k8 _ _ qst q7
                generalize upd H8 D3 (.lst ([(b0, c0), (b1, c1), (b2, c2)].map (fun z => V.ref z.1) ++ [V.ref D4])) = H9 at *
                have hC : ∀ x ∈ [V.ref b0, V.ref b1, V.ref b2, V.ref D4], ∃ (a : Addr) (zs : List Int), x = .ref a ∧ H9 a = some (.lst (zs.map V.int)) ∧ isB zs ∧ zs.length ≤ 13 := fun x hx => by
                  simp only [List.mem_cons, List.not_mem_nil, or_false] at hx
                  rcases hx with rfl | rfl | rfl | rfl
                  · exact ⟨b0, c0, rfl, u0, g02, g03⟩
                  · exact ⟨b1, c1, rfl, u1, g12, g13⟩
                  · exact ⟨b2, c2, rfl, u2, g22, g23⟩
                  · exact ⟨D4, bs, rfl, u4, m1, by omega⟩
                clear mk u1 u2 e7' e8 d8 k8 hD4 g01 g11 g21 g12 g13 g14 g15 g22 g23 g24 g25 f7 e7 e7n q7 d7 k7 hD3 e6 q6 d6
                walk_at "go"
                refine for_list (K := K) (xs := [V.str (nmS ds ++ t), x1, x2, V.str (nmS fs ++ t)]) (fun i σ Hx => (∃ v6 v7 : Option V, σ = [some (.ref sa), some (.ref st), some (.ref q), some (.ref D), some (.str (nmS ds)), some (.ref D3), v6, v7, none, none, none, none, none, none, none]) ∧ Same H9 Hx) ⟨⟨none, none, rfl⟩, Same.refl H9⟩ (fun i σ Hx _ z => SqL.of (z.2 _ _ uN)) (fun i x σ Hx hx z => ?_) (fun σ Hx z => ?_)
                · obtain ⟨⟨v6, v7, rfl⟩, sx⟩ := z
                  obtain ⟨es, t2, rfl, i1, i2, i3, i4, i5⟩ := hN x (List.mem_of_getElem? hx)
                  have hzx : (nmS es ++ t2).length ≤ 1000 := by rw [len_app, nmS_len]; omega
                  have mx1 := mix_isD (.inl rfl : Base 66) ks i1
                  have mx2 := mix_len (.inl rfl : Base 66) ks i1
                  have uqx := sx _ _ uq
                  walk_at "go"
                  refine ⟨_, _, rfl, es, ks, t2, q, rfl, rfl, SqT.of uqx, hk, i1, i4, by omega, fun Ha sa1 => ?_⟩
                  walk_at "go"
                  refine ⟨_, _, rfl, es, ks, t2, q, rfl, rfl, SqT.of (sa1 _ _ uqx), hk, i1, i4, i3, by omega, fun Hb sb => ?_⟩
                  walk_at "go"
                  refine i_neself ?_
                  walk_at "go"
                  refine ⟨_, _, rfl, mix 66 ks es, ks, t2, q, rfl, rfl, SqT.of ((sa1.trans sb) _ _ uqx), hk, mx1, i4, by omega, by omega, by omega, fun es2 Hc o1 o2 o3 scc => ?_⟩
                  have ees : es2 = es := mix_inj (.inl rfl : Base 66) hk o1 i1 (by omega) o3
                  rw [ees]
                  walk_at "go"
                  refine i_neself ?_
                  walk_at "go"
                  refine ⟨_, _, rfl, es, ks, t2, q, rfl, rfl, SqT.of (((sa1.trans sb).trans scc) _ _ uqx), hk, i1, i4, by omega, by omega, by omega, fun es3 Hd p1 p2 p3 sdd => ?_⟩
                  walk_at "go"
                  refine ⟨_, _, rfl, es3, ks, t2, q, rfl, rfl, SqT.of ((((sa1.trans sb).trans scc).trans sdd) _ _ uqx), hk, p1, i4, by omega, fun He see => ?_⟩
                  rw [p3]
                  walk_at "go"
                  refine i_neself ?_
                  walk_at "go"
                  exact ⟨⟨_, _, rfl⟩, ((((sx.trans sa1).trans sb).trans scc).trans sdd).trans see⟩
                · obtain ⟨⟨v6, v7, rfl⟩, sx⟩ := z
                  have uCx := sx _ _ uC
                  walk_at "go"
                  refine for_list (K := K) (xs := [V.ref b0, V.ref b1, V.ref b2, V.ref D4]) (fun i σ Hy => (∃ v7 v8 v9 : Option V, σ = [some (.ref sa), some (.ref st), some (.ref q), some (.ref D), some (.str (nmS ds)), some (.ref D3), v6, v7, v8, v9, none, none, none, none, none]) ∧ Same H9 Hy) ⟨⟨_, none, none, rfl⟩, sx⟩ (fun i σ Hy _ z => SqL.of (z.2 _ _ uC)) (fun i x σ Hy hx z => ?_) (fun σ Hy z => ?_)
                  · obtain ⟨⟨v7, v8, v9, rfl⟩, sy⟩ := z
                    obtain ⟨a, zs, rfl, w1, w2, w3⟩ := hC x (List.mem_of_getElem? hx)
                    have w1y := sy _ _ w1
                    have uqy := sy _ _ uq
                    have ml := mixC_len (ks := ks) w2
                    have mb := mixC_isB (ks := ks) w2
                    walk_at "go"
                    intro l hl1
                    have sB := same_new (o := .lst (zs.map V.int)) hl1
                    have eB : (upd Hy l (.lst (zs.map V.int))) l = some (.lst (zs.map V.int)) := upd_same
                    generalize upd Hy l (.lst (zs.map V.int)) = Hb at *
                    walk_at "go"
                    refine ⟨_, _, rfl, a, q, zs, ks, rfl, rfl, SqL.of (sB _ _ w1y), w2, by omega, SqT.of (sB _ _ uqy), hk, fun r1 Hc hr1 s1c e1c => ?_⟩
                    walk_at "go"
                    refine ⟨_, _, rfl, a, q, zs, ks, rfl, rfl, SqL.of ((sB.trans s1c) _ _ w1y), w2, by omega, SqT.of ((sB.trans s1c) _ _ uqy), hk, fun r2 Hd hr2 s2d e2d => ?_⟩
                    walk_at "go"
                    refine e_neLL (SqL.of (s2d _ _ e1c)) (SqL.of e2d) ?_
                    walk_at "go"
                    refine i_neself ?_
                    walk_at "go"
                    refine ⟨_, _, rfl, r1, q, mixC ks zs, ks, rfl, rfl, SqL.of (s2d _ _ e1c), mb, by omega, SqT.of (((sB.trans s1c).trans s2d) _ _ uqy), hk, fun es o1 o2 o3 r3 He hr3 s3e e3e => ?_⟩
                    have ees : es = zs := mixC_inj hk o1 w2 o3
                    rw [ees] at e3e
                    have s14 := (s1c.trans s2d).trans s3e
                    walk_at "go"
                    refine e_neLL (SqL.of e3e) (SqL.of (s14 _ _ eB)) ?_
                    walk_at "go"
                    refine i_neself ?_
                    walk_at "go"
                    refine e_neLL (SqL.of ((sB.trans s14) _ _ w1y)) (SqL.of (s14 _ _ eB)) ?_
                    walk_at "go"
                    refine i_neself ?_
                    walk_at "go"
                    refine ⟨_, _, rfl, a, q, zs, ks, rfl, rfl, SqL.of ((sB.trans s14) _ _ w1y), w2, by omega, SqT.of ((sB.trans s14) _ _ uqy), hk, fun es2 p1 p2 p3 r4 Hf hr4 s4f e4f => ?_⟩
                    walk_at "go"
                    refine ⟨_, _, rfl, r4, q, es2, ks, rfl, rfl, SqL.of e4f, p1, by omega, SqT.of (((sB.trans s14).trans s4f) _ _ uqy), hk, fun r5 Hg hr5 s5g e5g => ?_⟩
                    rw [p3] at e5g
                    walk_at "go"
                    refine e_neLL (SqL.of e5g) (SqL.of (((s14.trans s4f).trans s5g) _ _ eB)) ?_
                    walk_at "go"
                    refine i_neself ?_
                    walk_at "go"
                    exact ⟨⟨_, _, _, rfl⟩, (((sy.trans sB).trans s14).trans s4f).trans s5g⟩
                  · obtain ⟨⟨v7, v8, v9, rfl⟩, sy⟩ := z
                    have uNy := sy _ _ uN
                    have uqy := sy _ _ uq
                    have uCy := sy _ _ uC
                    have u0y := sy _ _ u0
                    have u4y := sy _ _ u4
                    walk_at "go"
                    refine e_ixL (SqL.of uNy) (at_of (j := 0) (by omega) rfl) ?_
                    walk_at "go"
                    refine ⟨_, _, rfl, ds, ks, t, q, rfl, rfl, SqT.of uqy, hk, ad, at_, by omega, fun Ha sa1 => ?_⟩
                    walk_at "go"
                    refine e_ixL (SqL.of (sa1 _ _ uNy)) (at_of (j := 3) (by omega) rfl) ?_
                    walk_at "go"
                    refine ⟨_, _, rfl, fs, ks, t, q, rfl, rfl, SqT.of (sa1 _ _ uqy), hk, f1, at_, by omega, fun Hb sb => ?_⟩
                    have sab := sa1.trans sb
                    walk_at "go"
                    refine e_ixL (SqL.of (sab _ _ uNy)) (at_of (j := 0) (by omega) rfl) ?_
                    walk_at "go"
                    refine e_ixL (SqL.of (sab _ _ uNy)) (at_of (j := 3) (by omega) rfl) ?_
                    walk_at "go"
                    have key : decide (nmS (mix 66 ks ds) ++ t = nmS (mix 66 ks fs) ++ t) = decide (nmS ds ++ t = nmS fs ++ t) := decide_eq_decide.mpr ⟨fun e => by
                      have e2 := nm_inj (mix_isD (.inl rfl : Base 66) ks ad) (mix_isD (.inl rfl : Base 66) ks f1) (app_tail e)
                      rw [mix_inj (.inl rfl : Base 66) hk ad f1 f2.symm e2], fun e => by rw [nm_inj ad f1 (app_tail e)]⟩
                    rw [key, bne_self_eq_false]
                    walk_at "go"
                    refine e_ixL (SqL.of (sab _ _ uCy)) (at_of (j := 0) (by omega) rfl) ?_
                    walk_at "go"
                    refine ⟨_, _, rfl, b0, q, c0, ks, rfl, rfl, SqL.of (sab _ _ u0y), g02, by omega, SqT.of (sab _ _ uqy), hk, fun r1 Hc hr1 scc e1c => ?_⟩
                    walk_at "go"
                    refine e_ixL (SqL.of ((sab.trans scc) _ _ uCy)) (at_of (j := 3) (by omega) rfl) ?_
                    walk_at "go"
                    refine ⟨_, _, rfl, D4, q, bs, ks, rfl, rfl, SqL.of ((sab.trans scc) _ _ u4y), m1, by omega, SqT.of ((sab.trans scc) _ _ uqy), hk, fun r2 Hd hr2 sdd e2d => ?_⟩
                    have sad := (sab.trans scc).trans sdd
                    walk_at "go"
                    refine e_eqLL (SqL.of (sdd _ _ e1c)) (SqL.of e2d) ?_
                    walk_at "go"
                    refine e_ixL (SqL.of (sad _ _ uCy)) (at_of (j := 0) (by omega) rfl) ?_
                    walk_at "go"
                    refine e_ixL (SqL.of (sad _ _ uCy)) (at_of (j := 3) (by omega) rfl) ?_
                    walk_at "go"
                    refine e_eqLL (SqL.of (sad _ _ u0y)) (SqL.of (sad _ _ u4y)) ?_
                    walk_at "go"
                    have key2 : decide (mixC ks c0 = mixC ks bs) = decide (c0 = bs) := decide_eq_decide.mpr ⟨fun e => mixC_inj hk g02 m1 e, fun e => by rw [e]⟩
                    rw [key2, bne_self_eq_false]
                    have uqd := sad _ _ uqy
                    walk_at "go"
                    clear key key2 uNy uCy u0y u4y sab sad scc sdd e1c e2d hr1 hr2 sa1 sb
                    have k8 := hk.1
                    have n7 : (ks.take 7).map V.int ≠ [] := by
                      match ks, k8 with
                      | [_, _, _, _, _, _, _, _], _ => exact fun e => nomatch e
                    have n8 : ks.map V.int ≠ [] := by
                      match ks, k8 with
                      | [_, _, _, _, _, _, _, _], _ => exact fun e => nomatch e
                    have l7 : ((ks.take 7).map V.int).length = 7 := by rw [List.length_map, List.length_take, k8]; rfl
                    have l8 : (ks.map V.int).length = 8 := by rw [List.length_map, k8]
                    rename_i p0 hp0
                    have t0 := same_new (o := .tup []) hp0
                    have o2 : OddV (upd Hd p0 (.tup [])) (.ref p0) := .inr ⟨p0, [], rfl, upd_same, by decide, (fun _ h => nomatch h), rfl⟩
                    have uqe := t0 _ _ uqd
                    generalize upd Hd p0 (.tup []) = He at *
                    refine e_sl7 k8 uqe fun p3 hp3 => ?_
                    have t3 := same_new (o := .tup ((ks.take 7).map V.int)) hp3
                    have e3 : (upd He p3 (.tup ((ks.take 7).map V.int))) p3 = some (.tup ((ks.take 7).map V.int)) := upd_same
                    have o3 : OddV (upd He p3 (.tup ((ks.take 7).map V.int))) (.ref p3) := .inr ⟨p3, _, rfl, upd_same, by rw [l7]; decide, simple_ints _, bad_len (by rw [l7]; decide)⟩
                    replace o2 := o2.same t3
                    replace uqe := t3 _ _ uqe
                    generalize upd He p3 (.tup ((ks.take 7).map V.int)) = Hf at *
                    clear e3
                    walk_at "go"
                    rename_i z4 hz4
                    have y4 := same_new (o := .tup [.int 0]) hz4
                    have f4 : (upd Hf z4 (.tup [.int 0])) z4 = some (.tup [.int 0]) := upd_same
                    replace o2 := o2.same y4
                    replace o3 := o3.same y4
                    replace uqe := y4 _ _ uqe
                    generalize upd Hf z4 (.tup [.int 0]) = Hm1 at *
                    refine e_cat1 uqe f4 n8 (by omega) fun p4 hp4 => ?_
                    have t4 := same_new (o := .tup (ks.map V.int ++ [.int 0])) hp4
                    have o4 : OddV (upd Hm1 p4 (.tup (ks.map V.int ++ [.int 0]))) (.ref p4) := .inr ⟨p4, _, rfl, upd_same, by rw [List.length_append, l8]; decide, simple_snoc (.inl ⟨_, rfl⟩), bad_len (by rw [List.length_append, l8]; decide)⟩
                    replace o2 := o2.same t4
                    replace o3 := o3.same t4
                    replace uqe := t4 _ _ uqe
                    generalize upd Hm1 p4 (.tup (ks.map V.int ++ [.int 0])) = Hm2 at *
                    clear f4 y4 t4 hz4 hp4
                    walk_at "go"
                    intro l5 hl5
                    have t5 := same_new (o := .lst (ks.map V.int)) hl5
                    have o5 : OddV (upd Hm2 l5 (.lst (ks.map V.int))) (.ref l5) := .inl (.inr (.inr ⟨l5, _, rfl, upd_same⟩))
                    replace o2 := o2.same t5
                    replace o3 := o3.same t5
                    replace o4 := o4.same t5
                    replace uqe := t5 _ _ uqe
                    generalize upd Hm2 l5 (.lst (ks.map V.int)) = Hm3 at *
                    clear t5 hl5
                    walk_at "go"
                    refine e_sl7 k8 uqe fun p6 hp6 => ?_
                    have t6 := same_new (o := .tup ((ks.take 7).map V.int)) hp6
                    have e6n : (upd Hm3 p6 (.tup ((ks.take 7).map V.int))) p6 = some (.tup ((ks.take 7).map V.int)) := upd_same
                    replace o2 := o2.same t6
                    replace o3 := o3.same t6
                    replace o4 := o4.same t6
                    replace o5 := o5.same t6
                    replace uqe := t6 _ _ uqe
                    generalize upd Hm3 p6 (.tup ((ks.take 7).map V.int)) = Hm4 at *
                    clear t6 hp6
                    walk_at "go"
                    rename_i z6 hz6
                    have y6 := same_new (o := .tup [.int (-1)]) hz6
                    have f6 : (upd Hm4 z6 (.tup [.int (-1)])) z6 = some (.tup [.int (-1)]) := upd_same
                    replace e6n := y6 _ _ e6n
                    replace o2 := o2.same y6
                    replace o3 := o3.same y6
                    replace o4 := o4.same y6
                    replace o5 := o5.same y6
                    replace uqe := y6 _ _ uqe
                    generalize upd Hm4 z6 (.tup [.int (-1)]) = Hm5 at *
                    refine e_cat1 e6n f6 n7 (by omega) fun q6 hq6 => ?_
                    have t6 := same_new (o := .tup ((ks.take 7).map V.int ++ [.int (-1)])) hq6
                    have o6 : OddV (upd Hm5 q6 (.tup ((ks.take 7).map V.int ++ [.int (-1)]))) (.ref q6) := .inr ⟨q6, _, rfl, upd_same, by rw [List.length_append, l7]; decide, simple_snoc (.inl ⟨_, rfl⟩), bad_snoc (by rfl)⟩
                    replace o2 := o2.same t6
                    replace o3 := o3.same t6
                    replace o4 := o4.same t6
                    replace o5 := o5.same t6
                    replace uqe := t6 _ _ uqe
                    generalize upd Hm5 q6 (.tup ((ks.take 7).map V.int ++ [.int (-1)])) = Hm6 at *
                    clear t6 y6 f6 e6n hz6 hq6
                    walk_at "go"
                    refine e_sl7 k8 uqe fun p7 hp7 => ?_
                    have t7 := same_new (o := .tup ((ks.take 7).map V.int)) hp7
                    have e7n : (upd Hm6 p7 (.tup ((ks.take 7).map V.int))) p7 = some (.tup ((ks.take 7).map V.int)) := upd_same
                    replace o2 := o2.same t7
                    replace o3 := o3.same t7
                    replace o4 := o4.same t7
                    replace o5 := o5.same t7
                    replace o6 := o6.same t7
                    replace uqe := t7 _ _ uqe
                    generalize upd Hm6 p7 (.tup ((ks.take 7).map V.int)) = Hm7 at *
                    clear t7 hp7
                    walk_at "go"
                    rename_i z7 hz7
                    have y7 := same_new (o := .tup [.int 4294967296]) hz7
                    have f7 : (upd Hm7 z7 (.tup [.int 4294967296])) z7 = some (.tup [.int 4294967296]) := upd_same
                    replace e7n := y7 _ _ e7n
                    replace o2 := o2.same y7
                    replace o3 := o3.same y7
                    replace o4 := o4.same y7
                    replace o5 := o5.same y7
                    replace o6 := o6.same y7
                    replace uqe := y7 _ _ uqe
                    generalize upd Hm7 z7 (.tup [.int 4294967296]) = Hm8 at *
                    refine e_cat1 e7n f7 n7 (by omega) fun q7 hq7 => ?_
                    have t7 := same_new (o := .tup ((ks.take 7).map V.int ++ [.int 4294967296])) hq7
                    have o7 : OddV (upd Hm8 q7 (.tup ((ks.take 7).map V.int ++ [.int 4294967296]))) (.ref q7) := .inr ⟨q7, _, rfl, upd_same, by rw [List.length_append, l7]; decide, simple_snoc (.inl ⟨_, rfl⟩), bad_snoc (by rfl)⟩
                    replace o2 := o2.same t7
                    replace o3 := o3.same t7
                    replace o4 := o4.same t7
                    replace o5 := o5.same t7
                    replace o6 := o6.same t7
                    replace uqe := t7 _ _ uqe
                    generalize upd Hm8 q7 (.tup ((ks.take 7).map V.int ++ [.int 4294967296])) = Hm9 at *
                    clear t7 y7 f7 e7n hz7 hq7
                    walk_at "go"
                    refine e_sl7 k8 uqe fun p8 hp8 => ?_
                    have t8 := same_new (o := .tup ((ks.take 7).map V.int)) hp8
                    have e8n : (upd Hm9 p8 (.tup ((ks.take 7).map V.int))) p8 = some (.tup ((ks.take 7).map V.int)) := upd_same
                    replace o2 := o2.same t8
                    replace o3 := o3.same t8
                    replace o4 := o4.same t8
                    replace o5 := o5.same t8
                    replace o6 := o6.same t8
                    replace o7 := o7.same t8
                    replace uqe := t8 _ _ uqe
                    generalize upd Hm9 p8 (.tup ((ks.take 7).map V.int)) = Hm10 at *
                    clear t8 hp8
                    walk_at "go"
                    rename_i z8 hz8
                    have y8 := same_new (o := .tup [.bl true]) hz8
                    have f8 : (upd Hm10 z8 (.tup [.bl true])) z8 = some (.tup [.bl true]) := upd_same
                    replace e8n := y8 _ _ e8n
                    replace o2 := o2.same y8
                    replace o3 := o3.same y8
                    replace o4 := o4.same y8
                    replace o5 := o5.same y8
                    replace o6 := o6.same y8
                    replace o7 := o7.same y8
                    replace uqe := y8 _ _ uqe
                    generalize upd Hm10 z8 (.tup [.bl true]) = Hm11 at *
                    refine e_cat1 e8n f8 n7 (by omega) fun q8 hq8 => ?_
                    have t8 := same_new (o := .tup ((ks.take 7).map V.int ++ [.bl true])) hq8
                    have o8 : OddV (upd Hm11 q8 (.tup ((ks.take 7).map V.int ++ [.bl true]))) (.ref q8) := .inr ⟨q8, _, rfl, upd_same, by rw [List.length_append, l7]; decide, simple_snoc (.inr (.inl ⟨_, rfl⟩)), bad_snoc (by rfl)⟩
                    replace o2 := o2.same t8
                    replace o3 := o3.same t8
                    replace o4 := o4.same t8
                    replace o5 := o5.same t8
                    replace o6 := o6.same t8
                    replace o7 := o7.same t8
                    replace uqe := t8 _ _ uqe
                    generalize upd Hm11 q8 (.tup ((ks.take 7).map V.int ++ [.bl true])) = Hm12 at *
                    clear t8 y8 f8 e8n hz8 hq8
                    walk_at "go"
                    refine e_sl7 k8 uqe fun p9 hp9 => ?_
                    have t9 := same_new (o := .tup ((ks.take 7).map V.int)) hp9
                    have e9n : (upd Hm12 p9 (.tup ((ks.take 7).map V.int))) p9 = some (.tup ((ks.take 7).map V.int)) := upd_same
                    replace o2 := o2.same t9
                    replace o3 := o3.same t9
                    replace o4 := o4.same t9
                    replace o5 := o5.same t9
                    replace o6 := o6.same t9
                    replace o7 := o7.same t9
                    replace o8 := o8.same t9
                    replace uqe := t9 _ _ uqe
                    generalize upd Hm12 p9 (.tup ((ks.take 7).map V.int)) = Hm13 at *
                    clear t9 hp9
                    walk_at "go"
                    rename_i z9 hz9
                    have y9 := same_new (o := .tup [.str (Str.ofString "0")]) hz9
                    have f9 : (upd Hm13 z9 (.tup [.str (Str.ofString "0")])) z9 = some (.tup [.str (Str.ofString "0")]) := upd_same
                    replace e9n := y9 _ _ e9n
                    replace o2 := o2.same y9
                    replace o3 := o3.same y9
                    replace o4 := o4.same y9
                    replace o5 := o5.same y9
                    replace o6 := o6.same y9
                    replace o7 := o7.same y9
                    replace o8 := o8.same y9
                    replace uqe := y9 _ _ uqe
                    generalize upd Hm13 z9 (.tup [.str (Str.ofString "0")]) = Hm14 at *
                    refine e_cat1 e9n f9 n7 (by omega) fun q9 hq9 => ?_
                    have t9 := same_new (o := .tup ((ks.take 7).map V.int ++ [.str (Str.ofString "0")])) hq9
                    have o9 : OddV (upd Hm14 q9 (.tup ((ks.take 7).map V.int ++ [.str (Str.ofString "0")]))) (.ref q9) := .inr ⟨q9, _, rfl, upd_same, by rw [List.length_append, l7]; decide, simple_snoc (.inr (.inr ⟨_, rfl⟩)), bad_snoc (by rfl)⟩
                    replace o2 := o2.same t9
                    replace o3 := o3.same t9
                    replace o4 := o4.same t9
                    replace o5 := o5.same t9
                    replace o6 := o6.same t9
                    replace o7 := o7.same t9
                    replace o8 := o8.same t9
                    replace uqe := t9 _ _ uqe
                    generalize upd Hm14 q9 (.tup ((ks.take 7).map V.int ++ [.str (Str.ofString "0")])) = Hm15 at *
                    clear t9 y9 f9 e9n hz9 hq9
                    walk_at "go"
                    rename_i po hpo
                    have tO := same_new (o := .lst [V.non, V.int 5, V.ref p0, V.ref p3, V.ref p4, V.ref l5, V.ref q6, V.ref q7, V.ref q8, V.ref q9]) hpo
                    have eO : (upd Hm15 po (.lst [V.non, V.int 5, V.ref p0, V.ref p3, V.ref p4, V.ref l5, V.ref q6, V.ref q7, V.ref q8, V.ref q9])) po = some (.lst [V.non, V.int 5, V.ref p0, V.ref p3, V.ref p4, V.ref l5, V.ref q6, V.ref q7, V.ref q8, V.ref q9]) := upd_same
                    replace o2 := o2.same tO
                    replace o3 := o3.same tO
                    replace o4 := o4.same tO
                    replace o5 := o5.same tO
                    replace o6 := o6.same tO
                    replace o7 := o7.same tO
                    replace o8 := o8.same tO
                    replace o9 := o9.same tO
                    replace uqe := tO _ _ uqe
                    generalize upd Hm15 po (.lst [V.non, V.int 5, V.ref p0, V.ref p3, V.ref p4, V.ref l5, V.ref q6, V.ref q7, V.ref q8, V.ref q9]) = Hz at *
                    have hO : ∀ v ∈ [V.non, V.int 5, V.ref p0, V.ref p3, V.ref p4, V.ref l5, V.ref q6, V.ref q7, V.ref q8, V.ref q9], OddV Hz v := fun v hv => by
                      simp only [List.mem_cons, List.not_mem_nil, or_false] at hv
                      rcases hv with rfl | rfl | rfl | rfl | rfl | rfl | rfl | rfl | rfl | rfl
                      · exact .inl (.inl rfl)
                      · exact .inl (.inr (.inl ⟨5, rfl⟩))
                      · exact o2
                      · exact o3
                      · exact o4
                      · exact o5
                      · exact o6
                      · exact o7
                      · exact o8
                      · exact o9
                    refine ⟨_, rfl, .inr ⟨q, _, rfl, uqe, by rw [l8]; decide, simple_ints _, fun Hy sy => ?_⟩⟩
                    rw [ok_all hk]
                    have eOy := sy _ _ eO
                    walk_at "go"
                    try (refine i_d (fun _ => ?_) (fun e => absurd rfl e); walk_at "go")
                    intro D5 hD5
                    refine lc_lst (K := K) (xs := [V.non, V.int 5, V.ref p0, V.ref p3, V.ref p4, V.ref l5, V.ref q6, V.ref q7, V.ref q8, V.ref q9]) (fun pre Hw => Same Hy Hw ∧ Hw D5 = some (.lst [])) ⟨same_new hD5, upd_same⟩ (fun pre Hw z => SqL.of (z.1 _ _ eOy)) (fun pre v post Hw e z => ?_) (fun Hw z => ?_)
                    · obtain ⟨sw, ew⟩ := z
                      have hv := (hO v (by rw [e]; simp)).same (sy.trans sw)
                      walk_at "go"
                      rcases hv with hv | ⟨p, xs, rfl, w1, w2, w3, w4⟩
                      · refine ⟨_, rfl, .inl ⟨hv, ?_⟩⟩
                        walk_at "go"
                        first | exact ⟨sw, ew⟩ | (refine i_neself ?_; walk_at "go"; exact ⟨sw, ew⟩)
                      · refine ⟨_, rfl, .inr ⟨p, xs, rfl, w1, w2, w3, fun Hv sv => ?_⟩⟩
                        rw [w4]
                        walk_at "go"
                        first | exact ⟨sw.trans sv, sv _ _ ew⟩ | (refine i_neself ?_; walk_at "go"; exact ⟨sw.trans sv, sv _ _ ew⟩)
                    · have ez := z.2
                      have ez2 := SqL.of (K := K) ez
                      walk_at "go"
                      first | exact k _ | (refine ⟨_, _, rfl, .inl ez2, ?_⟩; walk_at "go"; exact k _)
end
set_option maxHeartbeats 0
def d_block_number : He.DefD := ⟨("block_number", none), "block_number", "block_number", defArgs s_block_number, defBody s_block_number, defScope s_block_number, [], []⟩
def d_block_size : He.DefD := ⟨("block_size", none), "block_size", "block_size", defArgs s_block_size, defBody s_block_size, defScope s_block_size, [], []⟩
def d_is_block : He.DefD := ⟨("is_block", none), "is_block", "is_block", defArgs s_is_block, defBody s_is_block, defScope s_is_block, [], []⟩
def d_block_bytes : He.DefD := ⟨("block_bytes", none), "block_bytes", "block_bytes", defArgs s_block_bytes, defBody s_block_bytes, defScope s_block_bytes, [], []⟩
def d_split : He.DefD := ⟨("split", none), "split", "split", defArgs s_split, defBody s_split, defScope s_split, [], []⟩
def d_joined : He.DefD := ⟨("joined", none), "joined", "joined", defArgs s_joined, defBody s_joined, defScope s_joined, [], []⟩
def d_root_of : He.DefD := ⟨("root_of", none), "root_of", "root_of", defArgs s_root_of, defBody s_root_of, defScope s_root_of, [], []⟩
def d_mixed : He.DefD := ⟨("mixed", none), "mixed", "mixed", defArgs s_mixed, defBody s_mixed, defScope s_mixed, [], []⟩
def d_unmixed : He.DefD := ⟨("unmixed", none), "unmixed", "unmixed", defArgs s_unmixed, defBody s_unmixed, defScope s_unmixed, [], []⟩
def d_factor : He.DefD := ⟨("factor", none), "factor", "factor", defArgs s_factor, defBody s_factor, defScope s_factor, [], []⟩
def d_number : He.DefD := ⟨("_number", none), "_number", "_number", defArgs s_number, defBody s_number, defScope s_number, [], []⟩
def d_turned_digits : He.DefD := ⟨("_turned_digits", none), "_turned_digits", "_turned_digits", defArgs s_turned_digits, defBody s_turned_digits, defScope s_turned_digits, [], []⟩
def d_power : He.DefD := ⟨("_power", none), "_power", "_power", defArgs s_power, defBody s_power, defScope s_power, [], []⟩
def d_inverse : He.DefD := ⟨("_inverse", none), "_inverse", "_inverse", defArgs s_inverse, defBody s_inverse, defScope s_inverse, [], []⟩
def d_is_integer : He.DefD := ⟨("is_integer", none), "is_integer", "is_integer", defArgs s_is_integer, defBody s_is_integer, defScope s_is_integer, [], []⟩
def d_is_key : He.DefD := ⟨("is_key", none), "is_key", "is_key", defArgs s_is_key, defBody s_is_key, defScope s_is_key, [], []⟩
def d_seal_name : He.DefD := ⟨("seal_name", none), "seal_name", "seal_name", defArgs s_seal_name, defBody s_seal_name, defScope s_seal_name, [], []⟩
def d_open_name : He.DefD := ⟨("open_name", none), "open_name", "open_name", defArgs s_open_name, defBody s_open_name, defScope s_open_name, [], []⟩
def d_digits_of : He.DefD := ⟨("_digits_of", none), "_digits_of", "_digits_of", defArgs s_digits_of, defBody s_digits_of, defScope s_digits_of, [], []⟩
def d_name_of : He.DefD := ⟨("_name_of", none), "_name_of", "_name_of", defArgs s_name_of, defBody s_name_of, defScope s_name_of, [], []⟩
def d_seal_blocks : He.DefD := ⟨("_seal_blocks", none), "_seal_blocks", "_seal_blocks", defArgs s_seal_blocks, defBody s_seal_blocks, defScope s_seal_blocks, [], []⟩
def d_open_blocks : He.DefD := ⟨("_open_blocks", none), "_open_blocks", "_open_blocks", defArgs s_open_blocks, defBody s_open_blocks, defScope s_open_blocks, [], []⟩
def d_seal_content : He.DefD := ⟨("seal_content", none), "seal_content", "seal_content", defArgs s_seal_content, defBody s_seal_content, defScope s_seal_content, [], []⟩
def d_open_content : He.DefD := ⟨("open_content", none), "open_content", "open_content", defArgs s_open_content, defBody s_open_content, defScope s_open_content, [], []⟩
def d_law_draws : He.DefD := ⟨("_law_draws", none), "_law_draws", "_law_draws", defArgs s_law_draws, defBody s_law_draws, defScope s_law_draws, [], []⟩
def d_law_draw : He.DefD := ⟨("_law_draw", none), "_law_draw", "_law_draw", defArgs s_law_draw, defBody s_law_draw, defScope s_law_draw, [], []⟩
def d_law_key : He.DefD := ⟨("_law_key", none), "_law_key", "_law_key", defArgs s_law_key, defBody s_law_key, defScope s_law_key, [], []⟩
def d_law_factor : He.DefD := ⟨("_law_factor", none), "_law_factor", "_law_factor", defArgs s_law_factor, defBody s_law_factor, defScope s_law_factor, [], []⟩
def d_law_mixed : He.DefD := ⟨("_law_mixed", none), "_law_mixed", "_law_mixed", defArgs s_law_mixed, defBody s_law_mixed, defScope s_law_mixed, [], []⟩
def d_law_sealed_name : He.DefD := ⟨("_law_sealed_name", none), "_law_sealed_name", "_law_sealed_name", defArgs s_law_sealed_name, defBody s_law_sealed_name, defScope s_law_sealed_name, [], []⟩
def d_law_sealed_content : He.DefD := ⟨("_law_sealed_content", none), "_law_sealed_content", "_law_sealed_content", defArgs s_law_sealed_content, defBody s_law_sealed_content, defScope s_law_sealed_content, [], []⟩
def d_law_user_name : He.DefD := ⟨("_law_user_name", none), "_law_user_name", "_law_user_name", defArgs s_law_user_name, defBody s_law_user_name, defScope s_law_user_name, [], []⟩
def d_law_any_name : He.DefD := ⟨("_law_any_name", none), "_law_any_name", "_law_any_name", defArgs s_law_any_name, defBody s_law_any_name, defScope s_law_any_name, [], []⟩
def d_law_bytes : He.DefD := ⟨("_law_bytes", none), "_law_bytes", "_law_bytes", defArgs s_law_bytes, defBody s_law_bytes, defScope s_law_bytes, [], []⟩
def d_law : He.DefD := ⟨("law", none), "law", "law", defArgs s_law, defBody s_law, defScope s_law, [], []⟩
def fn : List He.DefD := [d_block_number, d_block_size, d_is_block, d_block_bytes, d_split, d_joined, d_root_of, d_mixed, d_unmixed, d_factor, d_number, d_turned_digits, d_power, d_inverse, d_is_integer, d_is_key, d_seal_name, d_open_name, d_digits_of, d_name_of, d_seal_blocks, d_open_blocks, d_seal_content, d_open_content, d_law_draws, d_law_draw, d_law_key, d_law_factor, d_law_mixed, d_law_sealed_name, d_law_sealed_content, d_law_user_name, d_law_any_name, d_law_bytes, d_law]
def ex : List (PySem.W.Frag → Bool) := [bfB "gcd" "math.gcd"]
def fa : List He.Fa := [.glo "block_number", .glo "block_size", .glo "is_block", .glo "block_bytes", .glo "split", .glo "joined", .glo "root_of", .glo "mixed", .glo "unmixed", .glo "factor", .glo "_number", .glo "_turned_digits", .glo "_power", .glo "_inverse", .glo "is_integer", .glo "is_key", .glo "seal_name", .glo "open_name", .glo "_digits_of", .glo "_name_of", .glo "_seal_blocks", .glo "_open_blocks", .glo "seal_content", .glo "open_content", .glo "_law_draws", .glo "_law_draw", .glo "_law_key", .glo "_law_factor", .glo "_law_mixed", .glo "_law_sealed_name", .glo "_law_sealed_content", .glo "_law_user_name", .glo "_law_any_name", .glo "_law_bytes", .glo "law", .free "abs", .free "all", .free "bool", .free "enumerate", .free "int", .free "isinstance", .free "len", .free "list", .free "range", .free "reversed", .free "str", .free "tuple", .int "BLOCK" 4, .int "BYTE_BASE" 256, .str "CHARACTERS" "-./0123456789ABCDEFGHIJKLMNOPQRSTUVWXYZ_abcdefghijklmnopqrstuvwxyz~", .int "NAME_BASE" 66, .int "_KEY_SIZE" 8, .int "_LARGEST" 4294967295]
abbrev R : PySem.W.OpenRow := PySem.W.OpenLaw.row PySem.Challenge.rw_folderkin_k54_sealed_names_and_contents
abbrev hk : PySem.W.Hook := hookX 6 fa fn ex
def ob (s : PySem.W.SharedT) : AlX := obsXG 6 fa fn ex (HandSHeadRun.getT s)
theorem ob_eq (s : PySem.W.SharedT) : ob s = hk.obs s.abs := obsXG_eq (HandSHeadRun.getT_eq s)
theorem run (w : World) : HandSHeadRun.RunEqI R (PySem.W.view R.prog [0, 50]) hk ob 8000 [PySem.Str.ofString "gcd", PySem.Str.ofString "FolderkinError", PySem.Str.ofString "InvalidBlock", PySem.Str.ofString "BLOCK", PySem.Str.ofString "block_number", PySem.Str.ofString "block_size", PySem.Str.ofString "is_block", PySem.Str.ofString "block_bytes", PySem.Str.ofString "split", PySem.Str.ofString "joined", PySem.Str.ofString "root_of", PySem.Str.ofString "BYTE_BASE", PySem.Str.ofString "NAME_BASE", PySem.Str.ofString "mixed", PySem.Str.ofString "unmixed", PySem.Str.ofString "factor", PySem.Str.ofString "_number", PySem.Str.ofString "_turned_digits", PySem.Str.ofString "_power", PySem.Str.ofString "_inverse", PySem.Str.ofString "CHARACTERS", PySem.Str.ofString "is_integer", PySem.Str.ofString "_KEY_SIZE", PySem.Str.ofString "_LARGEST", PySem.Str.ofString "is_key", PySem.Str.ofString "seal_name", PySem.Str.ofString "open_name", PySem.Str.ofString "_digits_of", PySem.Str.ofString "_name_of", PySem.Str.ofString "_seal_blocks", PySem.Str.ofString "_open_blocks", PySem.Str.ofString "seal_content", PySem.Str.ofString "open_content", PySem.Str.ofString "_law_draws", PySem.Str.ofString "_law_draw", PySem.Str.ofString "_law_key", PySem.Str.ofString "_law_factor", PySem.Str.ofString "_law_mixed", PySem.Str.ofString "_law_sealed_name", PySem.Str.ofString "_law_sealed_content", PySem.Str.ofString "_law_user_name", PySem.Str.ofString "_law_any_name", PySem.Str.ofString "_law_bytes"] w := by
  unfold HandSHeadRun.RunEqI
  kernel_rfl
theorem facts {P : Program} {w : World} {K : PySem.W.Frag} {h : Heap} {mg : Str → Option Value} {f : Addr} (X : K.In h) (G : h.Ns mainGlobals mg) (hfa : mg ("law" : Str) = some (.ref f)) (cc : SaysX fa fn ex K) :
    ∃ fd : FuncData, (∀ (s : Shared) (v : Value), BindsTo s fd ⟨[v], []⟩ [("script", v)]) ∧ ∀ base : Heap, K.In base → base.Ns mainGlobals mg → FnOk P w K mg base CX0 5 f fd ["script"] (sp_law K) := by
  have c : He.SaysD fa fn K := cc.1
  have k_BLOCK : ∃ u, mg "BLOCK" = some u ∧ RelV (.int 4) u := by
    obtain ⟨t, e⟩ := He.int_ok X G (c.fact 47 (f := .int "BLOCK" 4) rfl)
    exact ⟨_, e, t, rfl⟩
  have k_BYTE_BASE : ∃ u, mg "BYTE_BASE" = some u ∧ RelV (.int 256) u := by
    obtain ⟨t, e⟩ := He.int_ok X G (c.fact 48 (f := .int "BYTE_BASE" 256) rfl)
    exact ⟨_, e, t, rfl⟩
  have k_CHARACTERS : ∃ u, mg "CHARACTERS" = some u ∧ RelV (.str "-./0123456789ABCDEFGHIJKLMNOPQRSTUVWXYZ_abcdefghijklmnopqrstuvwxyz~") u := by
    obtain ⟨t, e⟩ := He.str_ok X G (c.fact 49 (f := .str "CHARACTERS" "-./0123456789ABCDEFGHIJKLMNOPQRSTUVWXYZ_abcdefghijklmnopqrstuvwxyz~") rfl)
    exact ⟨_, e, t, rfl⟩
  have k_NAME_BASE : ∃ u, mg "NAME_BASE" = some u ∧ RelV (.int 66) u := by
    obtain ⟨t, e⟩ := He.int_ok X G (c.fact 50 (f := .int "NAME_BASE" 66) rfl)
    exact ⟨_, e, t, rfl⟩
  have k__KEY_SIZE : ∃ u, mg "_KEY_SIZE" = some u ∧ RelV (.int 8) u := by
    obtain ⟨t, e⟩ := He.int_ok X G (c.fact 51 (f := .int "_KEY_SIZE" 8) rfl)
    exact ⟨_, e, t, rfl⟩
  have k__LARGEST : ∃ u, mg "_LARGEST" = some u ∧ RelV (.int 4294967295) u := by
    obtain ⟨t, e⟩ := He.int_ok X G (c.fact 52 (f := .int "_LARGEST" 4294967295) rfl)
    exact ⟨_, e, t, rfl⟩
  have T : Txt K mg := ⟨He.free_ok X G (c.fact 35 (f := .free "abs") rfl), He.free_ok X G (c.fact 36 (f := .free "all") rfl), He.free_ok X G (c.fact 37 (f := .free "bool") rfl), He.free_ok X G (c.fact 38 (f := .free "enumerate") rfl), He.free_ok X G (c.fact 39 (f := .free "int") rfl), He.free_ok X G (c.fact 40 (f := .free "isinstance") rfl), He.free_ok X G (c.fact 41 (f := .free "len") rfl), He.free_ok X G (c.fact 42 (f := .free "list") rfl), He.free_ok X G (c.fact 43 (f := .free "range") rfl), He.free_ok X G (c.fact 44 (f := .free "reversed") rfl), He.free_ok X G (c.fact 45 (f := .free "str") rfl), He.free_ok X G (c.fact 46 (f := .free "tuple") rfl), k_BLOCK, k_BYTE_BASE, k_CHARACTERS, k_NAME_BASE, k__KEY_SIZE, k__LARGEST, bfB_ok X G (cc.more 0 rfl)⟩
  obtain ⟨fd_block_number, F_block_number⟩ := c.def_ 0 (d := d_block_number) rfl
  have c_block_number : ∀ base : Heap, Cal P w K mg base 1 "block_number" (sp_block_number K) := fun base => ⟨_, _, ["data"], ok_block_number T  F_block_number, He.glo_ok X G (c.fact 0 (f := .glo "block_number") rfl), F_block_number.kp, FunD.bindsN F_block_number fun _ _ _ _ _ _ us hl => match us, hl with | [_], _ => rfl⟩
  obtain ⟨fd_block_size, F_block_size⟩ := c.def_ 1 (d := d_block_size) rfl
  have c_block_size : ∀ base : Heap, Cal P w K mg base 1 "block_size" (sp_block_size K) := fun base => ⟨_, _, ["number"], ok_block_size T  F_block_size, He.glo_ok X G (c.fact 1 (f := .glo "block_size") rfl), F_block_size.kp, FunD.bindsN F_block_size fun _ _ _ _ _ _ us hl => match us, hl with | [_], _ => rfl⟩
  obtain ⟨fd_root_of, F_root_of⟩ := c.def_ 6 (d := d_root_of) rfl
  have c_root_of : ∀ base : Heap, Cal P w K mg base 1 "root_of" (sp_root_of K) := fun base => ⟨_, _, ["name"], ok_root_of T  F_root_of, He.glo_ok X G (c.fact 6 (f := .glo "root_of") rfl), F_root_of.kp, FunD.bindsN F_root_of fun _ _ _ _ _ _ us hl => match us, hl with | [_], _ => rfl⟩
  obtain ⟨fd_factor, F_factor⟩ := c.def_ 9 (d := d_factor) rfl
  have c_factor : ∀ base : Heap, Cal P w K mg base 1 "factor" (sp_factor K) := fun base => ⟨_, _, ["number", "base"], ok_factor T  F_factor, He.glo_ok X G (c.fact 9 (f := .glo "factor") rfl), F_factor.kp, FunD.bindsN F_factor fun _ _ _ _ _ _ us hl => match us, hl with | [_, _], _ => rfl⟩
  obtain ⟨fd_number, F_number⟩ := c.def_ 10 (d := d_number) rfl
  have c_number : ∀ base : Heap, Cal P w K mg base 1 "_number" (sp_number K) := fun base => ⟨_, _, ["digits", "base"], ok_number T  F_number, He.glo_ok X G (c.fact 10 (f := .glo "_number") rfl), F_number.kp, FunD.bindsN F_number fun _ _ _ _ _ _ us hl => match us, hl with | [_, _], _ => rfl⟩
  obtain ⟨fd_turned_digits, F_turned_digits⟩ := c.def_ 11 (d := d_turned_digits) rfl
  have c_turned_digits : ∀ base : Heap, Cal P w K mg base 1 "_turned_digits" (sp_turned_digits K) := fun base => ⟨_, _, ["number", "base", "count"], ok_turned_digits T  F_turned_digits, He.glo_ok X G (c.fact 11 (f := .glo "_turned_digits") rfl), F_turned_digits.kp, FunD.bindsN F_turned_digits fun _ _ _ _ _ _ us hl => match us, hl with | [_, _, _], _ => rfl⟩
  obtain ⟨fd_power, F_power⟩ := c.def_ 12 (d := d_power) rfl
  have c_power : ∀ base : Heap, Cal P w K mg base 1 "_power" (sp_power K) := fun base => ⟨_, _, ["base", "count"], ok_power T  F_power, He.glo_ok X G (c.fact 12 (f := .glo "_power") rfl), F_power.kp, FunD.bindsN F_power fun _ _ _ _ _ _ us hl => match us, hl with | [_, _], _ => rfl⟩
  obtain ⟨fd_inverse, F_inverse⟩ := c.def_ 13 (d := d_inverse) rfl
  have c_inverse : ∀ base : Heap, Cal P w K mg base 1 "_inverse" (sp_inverse K) := fun base => ⟨_, _, ["number", "whole"], ok_inverse T  F_inverse, He.glo_ok X G (c.fact 13 (f := .glo "_inverse") rfl), F_inverse.kp, FunD.bindsN F_inverse fun _ _ _ _ _ _ us hl => match us, hl with | [_, _], _ => rfl⟩
  obtain ⟨fd_is_integer, F_is_integer⟩ := c.def_ 14 (d := d_is_integer) rfl
  have c_is_integer : ∀ base : Heap, Cal P w K mg base 1 "is_integer" (sp_is_integer K) := fun base => ⟨_, _, ["value"], ok_is_integer T  F_is_integer, He.glo_ok X G (c.fact 14 (f := .glo "is_integer") rfl), F_is_integer.kp, FunD.bindsN F_is_integer fun _ _ _ _ _ _ us hl => match us, hl with | [_], _ => rfl⟩
  obtain ⟨fd_digits_of, F_digits_of⟩ := c.def_ 18 (d := d_digits_of) rfl
  have c_digits_of : ∀ base : Heap, Cal P w K mg base 1 "_digits_of" (sp_digits_of K) := fun base => ⟨_, _, ["root"], ok_digits_of T  F_digits_of, He.glo_ok X G (c.fact 18 (f := .glo "_digits_of") rfl), F_digits_of.kp, FunD.bindsN F_digits_of fun _ _ _ _ _ _ us hl => match us, hl with | [_], _ => rfl⟩
  obtain ⟨fd_name_of, F_name_of⟩ := c.def_ 19 (d := d_name_of) rfl
  have c_name_of : ∀ base : Heap, Cal P w K mg base 1 "_name_of" (sp_name_of K) := fun base => ⟨_, _, ["digits"], ok_name_of T  F_name_of, He.glo_ok X G (c.fact 19 (f := .glo "_name_of") rfl), F_name_of.kp, FunD.bindsN F_name_of fun _ _ _ _ _ _ us hl => match us, hl with | [_], _ => rfl⟩
  obtain ⟨fd_law_draws, F_law_draws⟩ := c.def_ 24 (d := d_law_draws) rfl
  have c_law_draws : ∀ base : Heap, Cal P w K mg base 1 "_law_draws" (sp_law_draws K) := fun base => ⟨_, _, ["script"], ok_law_draws T  F_law_draws, He.glo_ok X G (c.fact 24 (f := .glo "_law_draws") rfl), F_law_draws.kp, FunD.bindsN F_law_draws fun _ _ _ _ _ _ us hl => match us, hl with | [_], _ => rfl⟩
  obtain ⟨fd_law_draw, F_law_draw⟩ := c.def_ 25 (d := d_law_draw) rfl
  have c_law_draw : ∀ base : Heap, Cal P w K mg base 1 "_law_draw" (sp_law_draw K) := fun base => ⟨_, _, ["draws", "limit"], ok_law_draw T  F_law_draw, He.glo_ok X G (c.fact 25 (f := .glo "_law_draw") rfl), F_law_draw.kp, FunD.bindsN F_law_draw fun _ _ _ _ _ _ us hl => match us, hl with | [_, _], _ => rfl⟩
  obtain ⟨fd_law_factor, F_law_factor⟩ := c.def_ 27 (d := d_law_factor) rfl
  have c_law_factor : ∀ base : Heap, Cal P w K mg base 1 "_law_factor" (sp_law_factor K) := fun base => ⟨_, _, ["base", "number"], ok_law_factor T  F_law_factor, He.glo_ok X G (c.fact 27 (f := .glo "_law_factor") rfl), F_law_factor.kp, FunD.bindsN F_law_factor fun _ _ _ _ _ _ us hl => match us, hl with | [_, _], _ => rfl⟩
  obtain ⟨fd_is_block, F_is_block⟩ := c.def_ 2 (d := d_is_block) rfl
  have c_is_block : ∀ base : Heap, Cal P w K mg base 2 "is_block" (sp_is_block K) := fun base => ⟨_, _, ["number"], ok_is_block T (c_block_size base) F_is_block, He.glo_ok X G (c.fact 2 (f := .glo "is_block") rfl), F_is_block.kp, FunD.bindsN F_is_block fun _ _ _ _ _ _ us hl => match us, hl with | [_], _ => rfl⟩
  obtain ⟨fd_block_bytes, F_block_bytes⟩ := c.def_ 3 (d := d_block_bytes) rfl
  have c_block_bytes : ∀ base : Heap, Cal P w K mg base 2 "block_bytes" (sp_block_bytes K) := fun base => ⟨_, _, ["number"], ok_block_bytes T (c_block_size base) F_block_bytes, He.glo_ok X G (c.fact 3 (f := .glo "block_bytes") rfl), F_block_bytes.kp, FunD.bindsN F_block_bytes fun _ _ _ _ _ _ us hl => match us, hl with | [_], _ => rfl⟩
  obtain ⟨fd_split, F_split⟩ := c.def_ 4 (d := d_split) rfl
  have c_split : ∀ base : Heap, Cal P w K mg base 2 "split" (sp_split K) := fun base => ⟨_, _, ["content"], ok_split T (c_block_number base) F_split, He.glo_ok X G (c.fact 4 (f := .glo "split") rfl), F_split.kp, FunD.bindsN F_split fun _ _ _ _ _ _ us hl => match us, hl with | [_], _ => rfl⟩
  obtain ⟨fd_mixed, F_mixed⟩ := c.def_ 7 (d := d_mixed) rfl
  have c_mixed : ∀ base : Heap, Cal P w K mg base 2 "mixed" (sp_mixed K) := fun base => ⟨_, _, ["digits", "base", "key"], ok_mixed T (c_number base) (c_factor base) (c_turned_digits base) F_mixed, He.glo_ok X G (c.fact 7 (f := .glo "mixed") rfl), F_mixed.kp, FunD.bindsN F_mixed fun _ _ _ _ _ _ us hl => match us, hl with | [_, _, _], _ => rfl⟩
  obtain ⟨fd_unmixed, F_unmixed⟩ := c.def_ 8 (d := d_unmixed) rfl
  have c_unmixed : ∀ base : Heap, Cal P w K mg base 2 "unmixed" (sp_unmixed K) := fun base => ⟨_, _, ["digits", "base", "key"], ok_unmixed T (c_power base) (c_number base) (c_inverse base) (c_factor base) (c_turned_digits base) F_unmixed, He.glo_ok X G (c.fact 8 (f := .glo "unmixed") rfl), F_unmixed.kp, FunD.bindsN F_unmixed fun _ _ _ _ _ _ us hl => match us, hl with | [_, _, _], _ => rfl⟩
  obtain ⟨fd_is_key, F_is_key⟩ := c.def_ 15 (d := d_is_key) rfl
  have c_is_key : ∀ base : Heap, Cal P w K mg base 2 "is_key" (sp_is_key K) := fun base => ⟨_, _, ["value"], ok_is_key T (c_is_integer base) F_is_key, He.glo_ok X G (c.fact 15 (f := .glo "is_key") rfl), F_is_key.kp, FunD.bindsN F_is_key fun _ _ _ _ _ _ us hl => match us, hl with | [_], _ => rfl⟩
  obtain ⟨fd_law_key, F_law_key⟩ := c.def_ 26 (d := d_law_key) rfl
  have c_law_key : ∀ base : Heap, Cal P w K mg base 2 "_law_key" (sp_law_key K) := fun base => ⟨_, _, ["draws"], ok_law_key T (c_law_draw base) F_law_key, He.glo_ok X G (c.fact 26 (f := .glo "_law_key") rfl), F_law_key.kp, FunD.bindsN F_law_key fun _ _ _ _ _ _ us hl => match us, hl with | [_], _ => rfl⟩
  obtain ⟨fd_law_mixed, F_law_mixed⟩ := c.def_ 28 (d := d_law_mixed) rfl
  have c_law_mixed : ∀ base : Heap, Cal P w K mg base 2 "_law_mixed" (sp_law_mixed K) := fun base => ⟨_, _, ["number", "base", "digits", "key"], ok_law_mixed T (c_law_factor base) F_law_mixed, He.glo_ok X G (c.fact 28 (f := .glo "_law_mixed") rfl), F_law_mixed.kp, FunD.bindsN F_law_mixed fun _ _ _ _ _ _ us hl => match us, hl with | [_, _, _, _], _ => rfl⟩
  obtain ⟨fd_law_user_name, F_law_user_name⟩ := c.def_ 31 (d := d_law_user_name) rfl
  have c_law_user_name : ∀ base : Heap, Cal P w K mg base 2 "_law_user_name" (sp_law_user_name K) := fun base => ⟨_, _, ["draws"], ok_law_user_name T (c_law_draw base) F_law_user_name, He.glo_ok X G (c.fact 31 (f := .glo "_law_user_name") rfl), F_law_user_name.kp, FunD.bindsN F_law_user_name fun _ _ _ _ _ _ us hl => match us, hl with | [_], _ => rfl⟩
  obtain ⟨fd_law_bytes, F_law_bytes⟩ := c.def_ 33 (d := d_law_bytes) rfl
  have c_law_bytes : ∀ base : Heap, Cal P w K mg base 2 "_law_bytes" (sp_law_bytes K) := fun base => ⟨_, _, ["draws"], ok_law_bytes T (c_law_draw base) F_law_bytes, He.glo_ok X G (c.fact 33 (f := .glo "_law_bytes") rfl), F_law_bytes.kp, FunD.bindsN F_law_bytes fun _ _ _ _ _ _ us hl => match us, hl with | [_], _ => rfl⟩
  obtain ⟨fd_joined, F_joined⟩ := c.def_ 5 (d := d_joined) rfl
  have c_joined : ∀ base : Heap, Cal P w K mg base 3 "joined" (sp_joined K) := fun base => ⟨_, _, ["numbers"], ok_joined T (c_is_block base) (c_block_bytes base) F_joined, He.glo_ok X G (c.fact 5 (f := .glo "joined") rfl), F_joined.kp, FunD.bindsN F_joined fun _ _ _ _ _ _ us hl => match us, hl with | [_], _ => rfl⟩
  obtain ⟨fd_seal_name, F_seal_name⟩ := c.def_ 16 (d := d_seal_name) rfl
  have c_seal_name : ∀ base : Heap, Cal P w K mg base 3 "seal_name" (sp_seal_name K) := fun base => ⟨_, _, ["name", "key"], ok_seal_name T (c_root_of base) (c_name_of base) (c_mixed base) (c_digits_of base) F_seal_name, He.glo_ok X G (c.fact 16 (f := .glo "seal_name") rfl), F_seal_name.kp, FunD.bindsN F_seal_name fun _ _ _ _ _ _ us hl => match us, hl with | [_, _], _ => rfl⟩
  obtain ⟨fd_open_name, F_open_name⟩ := c.def_ 17 (d := d_open_name) rfl
  have c_open_name : ∀ base : Heap, Cal P w K mg base 3 "open_name" (sp_open_name K) := fun base => ⟨_, _, ["name", "key"], ok_open_name T (c_root_of base) (c_name_of base) (c_unmixed base) (c_digits_of base) F_open_name, He.glo_ok X G (c.fact 17 (f := .glo "open_name") rfl), F_open_name.kp, FunD.bindsN F_open_name fun _ _ _ _ _ _ us hl => match us, hl with | [_, _], _ => rfl⟩
  obtain ⟨fd_seal_blocks, F_seal_blocks⟩ := c.def_ 20 (d := d_seal_blocks) rfl
  have c_seal_blocks : ∀ base : Heap, Cal P w K mg base 3 "_seal_blocks" (sp_seal_blocks K) := fun base => ⟨_, _, ["blocks", "key"], ok_seal_blocks T (c_block_number base) (c_mixed base) (c_block_bytes base) F_seal_blocks, He.glo_ok X G (c.fact 20 (f := .glo "_seal_blocks") rfl), F_seal_blocks.kp, FunD.bindsN F_seal_blocks fun _ _ _ _ _ _ us hl => match us, hl with | [_, _], _ => rfl⟩
  obtain ⟨fd_open_blocks, F_open_blocks⟩ := c.def_ 21 (d := d_open_blocks) rfl
  have c_open_blocks : ∀ base : Heap, Cal P w K mg base 3 "_open_blocks" (sp_open_blocks K) := fun base => ⟨_, _, ["blocks", "key"], ok_open_blocks T (c_block_number base) (c_unmixed base) (c_block_bytes base) F_open_blocks, He.glo_ok X G (c.fact 21 (f := .glo "_open_blocks") rfl), F_open_blocks.kp, FunD.bindsN F_open_blocks fun _ _ _ _ _ _ us hl => match us, hl with | [_, _], _ => rfl⟩
  obtain ⟨fd_law_sealed_name, F_law_sealed_name⟩ := c.def_ 29 (d := d_law_sealed_name) rfl
  have c_law_sealed_name : ∀ base : Heap, Cal P w K mg base 3 "_law_sealed_name" (sp_law_sealed_name K) := fun base => ⟨_, _, ["name", "key"], ok_law_sealed_name T (c_law_mixed base) F_law_sealed_name, He.glo_ok X G (c.fact 29 (f := .glo "_law_sealed_name") rfl), F_law_sealed_name.kp, FunD.bindsN F_law_sealed_name fun _ _ _ _ _ _ us hl => match us, hl with | [_, _], _ => rfl⟩
  obtain ⟨fd_law_sealed_content, F_law_sealed_content⟩ := c.def_ 30 (d := d_law_sealed_content) rfl
  have c_law_sealed_content : ∀ base : Heap, Cal P w K mg base 3 "_law_sealed_content" (sp_law_sealed_content K) := fun base => ⟨_, _, ["content", "key"], ok_law_sealed_content T (c_law_mixed base) F_law_sealed_content, He.glo_ok X G (c.fact 30 (f := .glo "_law_sealed_content") rfl), F_law_sealed_content.kp, FunD.bindsN F_law_sealed_content fun _ _ _ _ _ _ us hl => match us, hl with | [_, _], _ => rfl⟩
  obtain ⟨fd_law_any_name, F_law_any_name⟩ := c.def_ 32 (d := d_law_any_name) rfl
  have c_law_any_name : ∀ base : Heap, Cal P w K mg base 3 "_law_any_name" (sp_law_any_name K) := fun base => ⟨_, _, ["draws"], ok_law_any_name T (c_law_user_name base) (c_law_draw base) F_law_any_name, He.glo_ok X G (c.fact 32 (f := .glo "_law_any_name") rfl), F_law_any_name.kp, FunD.bindsN F_law_any_name fun _ _ _ _ _ _ us hl => match us, hl with | [_], _ => rfl⟩
  obtain ⟨fd_seal_content, F_seal_content⟩ := c.def_ 22 (d := d_seal_content) rfl
  have c_seal_content : ∀ base : Heap, Cal P w K mg base 4 "seal_content" (sp_seal_content K) := fun base => ⟨_, _, ["content", "key"], ok_seal_content T (c_joined base) (c_seal_blocks base) (c_split base) F_seal_content, He.glo_ok X G (c.fact 22 (f := .glo "seal_content") rfl), F_seal_content.kp, FunD.bindsN F_seal_content fun _ _ _ _ _ _ us hl => match us, hl with | [_, _], _ => rfl⟩
  obtain ⟨fd_open_content, F_open_content⟩ := c.def_ 23 (d := d_open_content) rfl
  have c_open_content : ∀ base : Heap, Cal P w K mg base 4 "open_content" (sp_open_content K) := fun base => ⟨_, _, ["content", "key"], ok_open_content T (c_joined base) (c_open_blocks base) (c_split base) F_open_content, He.glo_ok X G (c.fact 23 (f := .glo "open_content") rfl), F_open_content.kp, FunD.bindsN F_open_content fun _ _ _ _ _ _ us hl => match us, hl with | [_, _], _ => rfl⟩
  obtain ⟨fd_law, F_law⟩ := c.def_ 34 (d := d_law) rfl
  have e := hfa.symm.trans (He.glo_ok X G (c.fact 34 (f := .glo "law") rfl))
  cases e
  have b := FunD.bindsA (ps := ["script"]) F_law fun _ _ _ _ _ _ us hl => match us, hl with | [_], _ => rfl
  exact ⟨fd_law, fun s v => b s [v] rfl, fun base _ _ => ok_law T (c_law_draws base) (c_law_key base) (c_law_any_name base) (c_law_draw base) (c_law_bytes base) (c_seal_name base) (c_open_name base) (c_law_sealed_name base) (c_seal_content base) (c_open_content base) (c_law_sealed_content base) (c_is_key base) F_law⟩
end Vk54
set_option maxHeartbeats 0
open PySem PySem.W PySem.Calls PyProof.Rows
theorem PySem.Challenge.cw_folderkin_k54_sealed_names_and_contents_holds : PySem.Challenge.rw_folderkin_k54_sealed_names_and_contents.Holds := by
  w_on; o_law
  refine HandSHeadRun.head_imp (r := OpenLaw.row PySem.Challenge.rw_folderkin_k54_sealed_names_and_contents) (q := view (OpenLaw.row PySem.Challenge.rw_folderkin_k54_sealed_names_and_contents).prog [0, 50]) (H := Vk54.hk) (ob := Vk54.ob) (M := 8000) (loose := [PySem.Str.ofString "gcd", PySem.Str.ofString "FolderkinError", PySem.Str.ofString "InvalidBlock", PySem.Str.ofString "BLOCK", PySem.Str.ofString "block_number", PySem.Str.ofString "block_size", PySem.Str.ofString "is_block", PySem.Str.ofString "block_bytes", PySem.Str.ofString "split", PySem.Str.ofString "joined", PySem.Str.ofString "root_of", PySem.Str.ofString "BYTE_BASE", PySem.Str.ofString "NAME_BASE", PySem.Str.ofString "mixed", PySem.Str.ofString "unmixed", PySem.Str.ofString "factor", PySem.Str.ofString "_number", PySem.Str.ofString "_turned_digits", PySem.Str.ofString "_power", PySem.Str.ofString "_inverse", PySem.Str.ofString "CHARACTERS", PySem.Str.ofString "is_integer", PySem.Str.ofString "_KEY_SIZE", PySem.Str.ofString "_LARGEST", PySem.Str.ofString "is_key", PySem.Str.ofString "seal_name", PySem.Str.ofString "open_name", PySem.Str.ofString "_digits_of", PySem.Str.ofString "_name_of", PySem.Str.ofString "_seal_blocks", PySem.Str.ofString "_open_blocks", PySem.Str.ofString "seal_content", PySem.Str.ofString "open_content", PySem.Str.ofString "_law_draws", PySem.Str.ofString "_law_draw", PySem.Str.ofString "_law_key", PySem.Str.ofString "_law_factor", PySem.Str.ofString "_law_mixed", PySem.Str.ofString "_law_sealed_name", PySem.Str.ofString "_law_sealed_content", PySem.Str.ofString "_law_user_name", PySem.Str.ofString "_law_any_name", PySem.Str.ofString "_law_bytes"]) (d := HandSHeadRun.topDef (OpenLaw.row PySem.Challenge.rw_folderkin_k54_sealed_names_and_contents).prog 50) (kwd := []) Vk54.ob_eq
    Vk54.run (by kernel_rfl) (by kernel_rfl) (by kernel_rfl) (by rfl) (by first | assumption | decide +kernel) (by decide +kernel) ⟨rfl, rfl, rfl, rfl, rfl, by decide +kernel⟩ ?hw ?hc
  case hw => w_witness2
  case hc =>
    refine L2.walk_ofE (l := PySem.Challenge.rw_folderkin_k54_sealed_names_and_contents) (n := 63) (k := 5) (x := "script") (CX := L2.CX0) rfl (by decide) (by kernel_rfl) ⟨rfl, by decide, by decide⟩ ?F (fun _ _ _ _ z => z)
    intro w mg fa h Y G hmg0
    obtain ⟨K, KX, c⟩ := Y
    have hmg : mg ("law" : PySem.Str) = some (.ref fa) := by
      have e : (HandSHeadRun.topDef (OpenLaw.row PySem.Challenge.rw_folderkin_k54_sealed_names_and_contents).prog 50).name = ("law" : PySem.Str) := by kernel_rfl
      rw [← e]
      exact hmg0
    obtain ⟨fd, hb, hF⟩ := Vk54.facts (P := (PySem.Challenge.rw_folderkin_k54_sealed_names_and_contents).prog) (w := w) KX G hmg c
    exact ⟨K, fd, Vk54.sp_law K, KX, hb, fun H a ns hl _ hS => ⟨_, rfl, a, ns, rfl, hS, hl, fun _ => rfl⟩, hF⟩
