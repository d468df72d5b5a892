import PyProof.Rows.All
import Wide.All
import OpenK.AllK
import Wide.FinOn
import KE.KStateDown
import HandS.ForMost
import HandS.Codes
import HandS.Defaults
import HandS.Flow
import HandS.Walk
import HandS.Wide
import HandS.IsInst
import HandS.Iter
import KE.GoesMore
import KE.GoesEnum
import KE.LtData
import KE.DataCmp
import HandS.WideBits
import HandS.RevRange
import HandS.TupLe
import HandS.TupAny
import HandS.Style
import HandS.Dict
import HandS.More
import KE.KDictPairs
import KE.OsGo
import HandS.ForSpec
import HandS.ExcIs
import KE.KExcIs
import HandS.Head0
import HandS.Head1
import HandS.Head2
import HandS.HeadEnd
import HandS.HeadHook1
import HandS.HeadHook2
import HandS.OwnEq
import HandS.MakeKw
import KE.DataEq
import Lean
import PySem.Challenge.RW_folderkin_k40_first_pattern_decides
set_option Elab.async false
set_option linter.all false
set_option maxRecDepth 100000
set_option maxHeartbeats 4000000
namespace Vf
open PySem L2 PySem.Spec PyProof.Rows

/-- what is left of a loop, of a comprehension, behind what it walks -/
def ForB (J : It) (g : TG) (t : TS) (D : Ends) (σ : L2.St) (H1 : Hp) : Prop := ∃ W : Nat → Nat → L2.St → Hp → Prop, (∃ m, W 0 m σ H1) ∧ ∀ i m σ H, W i m σ H →
  (J.stop i H ∧ D.nx σ H) ∨ (J.go i H ∧ ∃ N : L2.St → Hp → Prop, (∀ σ' H', N σ' H' → ∃ m', m' < m ∧ W (i + 1) m' σ' H') ∧ ∀ x H', J.yld i H x H' → g x σ H' fun σ2 H2 => t { D with nx := N, ct := N, bk := D.nx } σ2 H2)
def LcB (J : It) (g : TG) (tt : TT) (te : TE) (vs : List Nat) (σ : L2.St) (D : Addr) (H1 : Hp) (Q : VK) : Prop := ∃ W : Nat → Nat → Hp → Prop, (∃ m, W 0 m (upd H1 D (.lst []))) ∧ ∀ i m H, W i m H →
  (J.stop i H ∧ Q (.ref D) H) ∨ (J.go i H ∧
    ∃ Nx : Hp → Prop, (∀ H', Nx H' → ∃ m', m' < m ∧ W (i + 1) m' H') ∧
    ∀ x H', J.yld i H x H' → g x (wipe σ vs) H' fun σ2 H2 => wipe σ2 vs = wipe σ vs ∧ tt σ2 H2 fun b H3 =>
    if b = true then te σ2 H3 fun y H4 => 
      ∃ acc, H4 D = some (.lst acc) ∧ acc.length < sizeLine ∧
      Nx (upd H4 D (.lst (acc ++ [y]))) else Nx H3)
section
variable {K : PySem.W.Frag} {g : TG} {t : TS} {D : Ends} {σ : L2.St} {H : Hp} {tt : TT} {te : TE} {vs : List Nat} {Q : VK} {Da : Addr}
/-- for c in z, a text: Pv by the signs gone -/
theorem for_str {z : Str} (Pv : List Nat → L2.St → Hp → Prop) (h0 : Pv [] σ H)
    (hs : ∀ (pre : List Nat) (c : Nat) (post : List Nat) σ H, z.cps.toList = pre ++ c :: post → Pv pre σ H → g (.str ⟨#[c]⟩) σ H fun σ2 H2 => t { D with nx := Pv (pre ++ [c]), ct := Pv (pre ++ [c]), bk := D.nx } σ2 H2)
    (hd : ∀ σ H, Pv z.cps.toList σ H → D.nx σ H) : ForB (Its z) g t D σ H := by
  refine for_it walk_str (fun i => Pv (z.cps.toList.take i)) (by simpa using h0) (fun _ _ _ _ _ => trivial) (fun i x σ H H' hi p y => ?_) (fun σ H p => ?_)
  · obtain ⟨e, c, hc, hx⟩ := y
    subst e hx
    have hc' : z.cps.toList[i]? = some c := by simpa using hc
    have hi' : i < z.cps.toList.length := by simpa using hi
    have e1 : z.cps.toList = z.cps.toList.take i ++ c :: z.cps.toList.drop (i + 1) := by
      have e2 := (List.getElem?_eq_some_iff.mp hc').2
      rw [← e2, List.getElem_cons_drop, List.take_append_drop]
    have e3 : z.cps.toList.take (i + 1) = z.cps.toList.take i ++ [c] := by
      rw [List.take_add_one, hc']; rfl
    rw [e3]
    exact hs _ c _ σ _ e1 p
  · refine hd σ H ?_
    have e : z.cps.toList.take z.cps.size = z.cps.toList := List.take_of_length_le (by simp)
    rw [← e]
    exact p
theorem lc_str {z : Str} (Pv : List Nat → Hp → Prop) (h0 : Pv [] (upd H Da (.lst [])))
    (hs : ∀ (pre : List Nat) (c : Nat) (post : List Nat) H, z.cps.toList = pre ++ c :: post → Pv pre H → g (.str ⟨#[c]⟩) (wipe σ vs) H fun σ2 H2 => wipe σ2 vs = wipe σ vs ∧ tt σ2 H2 fun b H3 =>
      if b = true then te σ2 H3 fun y H4 => ∃ acc, H4 Da = some (.lst acc) ∧ acc.length < sizeLine ∧ Pv (pre ++ [c]) (upd H4 Da (.lst (acc ++ [y]))) else Pv (pre ++ [c]) H3)
    (hd : ∀ H, Pv z.cps.toList H → Q (.ref Da) H) : LcB (Its z) g tt te vs σ Da H Q := by
  refine lc_it walk_str (fun i => Pv (z.cps.toList.take i)) (by simpa using h0) (fun _ _ _ _ => trivial) (fun i x H H' hi p y => ?_) (fun H p => ?_)
  · obtain ⟨e, c, hc, hx⟩ := y
    subst e hx
    have hc' : z.cps.toList[i]? = some c := by simpa using hc
    have e1 : z.cps.toList = z.cps.toList.take i ++ c :: z.cps.toList.drop (i + 1) := by
      have e2 := (List.getElem?_eq_some_iff.mp hc').2
      rw [← e2, List.getElem_cons_drop, List.take_append_drop]
    have e3 : z.cps.toList.take (i + 1) = z.cps.toList.take i ++ [c] := by
      rw [List.take_add_one, hc']; rfl
    rw [e3]
    exact hs _ c _ _ e1 p
  · refine hd H ?_
    have e : z.cps.toList.take z.cps.size = z.cps.toList := List.take_of_length_le (by simp)
    rw [← e]
    exact p
theorem for_rng {lo : Int} {n : Nat} (Pv : Nat → L2.St → Hp → Prop) (h0 : Pv 0 σ H)
    (hs : ∀ i σ H, i < n → Pv i σ H → g (.int (lo + i)) σ H fun σ2 H2 => t { D with nx := Pv (i + 1), ct := Pv (i + 1), bk := D.nx } σ2 H2) (hd : ∀ σ H, Pv n σ H → D.nx σ H) : ForB (Itr lo n) g t D σ H := for_range Pv h0 hs hd
theorem lc_rng {lo : Int} {n : Nat} (Pv : Nat → Hp → Prop) (h0 : Pv 0 (upd H Da (.lst [])))
    (hs : ∀ i H, i < n → Pv i H → g (.int (lo + i)) (wipe σ vs) H 
      fun σ2 H2 => wipe σ2 vs = wipe σ vs ∧ tt σ2 H2 fun b H3 =>
      if b = true then te σ2 H3 fun y H4 => ∃ acc, H4 Da = some (.lst acc) ∧ acc.length < sizeLine ∧ Pv (i + 1) (upd H4 Da (.lst (acc ++ [y]))) else Pv (i + 1) H3) (hd : ∀ H, Pv n H → Q (.ref Da) H) :
    LcB (Itr lo n) g tt te vs σ Da H Q := lc_range Pv h0 hs hd
/-- for x in xs, a list: Pv by what was taken -/
theorem for_lst {a : Addr} {xs : List V} (Pv : List V → L2.St → Hp → Prop) (h0 : Pv [] σ H) (hl : ∀ pre σ H, Pv pre σ H → SqL K H a xs)
    (hs : ∀ (pre : List V) (x : V) (post : List V) σ H, xs = pre ++ x :: post → Pv pre σ H → g x σ H fun σ2 H2 => t { D with nx := Pv (pre ++ [x]), ct := Pv (pre ++ [x]), bk := D.nx } σ2 H2)
    (hd : ∀ σ H, Pv xs σ H → D.nx σ H) : ForB (Itl K a) g t D σ H := by
  refine for_list (xs := xs) (fun i => Pv (xs.take i)) (by simpa using h0) (fun i σ H _ p => hl _ σ H p) (fun i x σ H hx p => ?_) (fun σ H p => ?_)
  · have e1 : xs = xs.take i ++ x :: xs.drop (i + 1) := by
      have e2 := (List.getElem?_eq_some_iff.mp hx).2
      rw [← e2, List.getElem_cons_drop, List.take_append_drop]
    have e3 : xs.take (i + 1) = xs.take i ++ [x] := by
      rw [List.take_add_one, hx]; rfl
    rw [e3]
    exact hs _ x _ σ H e1 p
  · rw [List.take_length] at p
    exact hd σ H p
theorem lc_lst {a : Addr} {xs : List V} (Pv : List V → Hp → Prop) (h0 : Pv [] (upd H Da (.lst []))) (hl : ∀ pre H, Pv pre H → SqL K H a xs)
    (hs : ∀ (pre : List V) (x : V) (post : List V) H, xs = pre ++ x :: post → Pv pre H → g x (wipe σ vs) H fun σ2 H2 => wipe σ2 vs = wipe σ vs ∧ tt σ2 H2 fun b H3 =>
      if b = true then te σ2 H3 fun y H4 => ∃ acc, H4 Da = some (.lst acc) ∧ acc.length < sizeLine ∧ Pv (pre ++ [x]) (upd H4 Da (.lst (acc ++ [y]))) else Pv (pre ++ [x]) H3)
    (hd : ∀ H, Pv xs H → Q (.ref Da) H) : LcB (Itl K a) g tt te vs σ Da H Q := by
  refine lc_list (xs := xs) (fun i => Pv (xs.take i)) (by simpa using h0) (fun i H _ p => hl _ H p) (fun i x H hx p => ?_) (fun H p => ?_)
  · have e1 : xs = xs.take i ++ x :: xs.drop (i + 1) := by
      have e2 := (List.getElem?_eq_some_iff.mp hx).2
      rw [← e2, List.getElem_cons_drop, List.take_append_drop]
    have e3 : xs.take (i + 1) = xs.take i ++ [x] := by
      rw [List.take_add_one, hx]; rfl
    rw [e3]
    exact hs _ x _ H e1 p
  · rw [List.take_length] at p
    exact hd H p
theorem for_tpl {a : Addr} {xs : List V} (Pv : List V → L2.St → Hp → Prop) (h0 : Pv [] σ H) (hl : ∀ pre σ H, Pv pre σ H → SqT K H a xs)
    (hs : ∀ (pre : List V) (x : V) (post : List V) σ H, xs = pre ++ x :: post → Pv pre σ H → g x σ H fun σ2 H2 => t { D with nx := Pv (pre ++ [x]), ct := Pv (pre ++ [x]), bk := D.nx } σ2 H2)
    (hd : ∀ σ H, Pv xs σ H → D.nx σ H) : ForB (Itt K a) g t D σ H := by
  refine for_tup (xs := xs) (fun i => Pv (xs.take i)) (by simpa using h0) (fun i σ H _ p => hl _ σ H p) (fun i x σ H hx p => ?_) (fun σ H p => ?_)
  · have e1 : xs = xs.take i ++ x :: xs.drop (i + 1) := by
      have e2 := (List.getElem?_eq_some_iff.mp hx).2
      rw [← e2, List.getElem_cons_drop, List.take_append_drop]
    have e3 : xs.take (i + 1) = xs.take i ++ [x] := by
      rw [List.take_add_one, hx]; rfl
    rw [e3]
    exact hs _ x _ σ H e1 p
  · rw [List.take_length] at p
    exact hd σ H p
end

/-! ### readings, one lemma a head -/
section
variable {σ : L2.St} {H : Hp} {Q : VK} {D : Ends} {te ta tb tx : TE} {tt tu : TT} {t u : TS} {as : TA} {r r' : R2} {x y v : V} {K : PySem.W.Frag}
theorem e_var {i : Nat} (h : σ[i]? = some (some v)) (q : Q v H) : tVar i σ H Q := ⟨v, h, q⟩
theorem e_c (q : Q v H) : tC v σ H Q := q
theorem e_op (q : ta σ H fun x H1 => tb σ H1 fun y H2 => r x y H2 Q) : tOp r ta tb σ H Q := q
theorem e_un {r : V → Hp → VK → Prop} (q : ta σ H fun x H1 => r x H1 Q) : tUn r ta σ H Q := q
theorem e_I0 {g : Int → Int → V} {i j : Int} (q : Q (g i j) H) : rI0 g (.int i) (.int j) H Q := ⟨i, j, rfl, rfl, q⟩
theorem e_I {C : Int → Int → Prop} {g : Int → Int → V} {i j : Int} (c : C i j) (q : Q (g i j) H) : rI C g (.int i) (.int j) H Q := ⟨i, j, rfl, rfl, c, q⟩
theorem e_U {g : Int → V} {i : Int} (q : Q (g i) H) : rU g (.int i) H Q := ⟨i, rfl, q⟩
theorem e_eq (s : scal x y = true) (q : Q (.bl (decide (x = y))) H) : rEq x y H Q := ⟨s, q⟩
theorem e_ne (s : scal x y = true) (q : Q (.bl (!decide (x = y))) H) : rNe x y H Q := ⟨s, q⟩
theorem e_eqI {i j : Int} (q : Q (.bl (decide (i = j))) H) : rEq (.int i) (.int j) H Q := ⟨rfl, by
  have e : decide (V.int i = V.int j) = decide (i = j) := by
    by_cases h : i = j
    · rw [h]; simp
    · rw [decide_eq_false h, decide_eq_false (fun z => h (V.int.inj z))]
  rw [e]; exact q⟩
theorem e_neI {i j : Int} (q : Q (.bl (!decide (i = j))) H) : rNe (.int i) (.int j) H Q := ⟨rfl, by
  have e : decide (V.int i = V.int j) = decide (i = j) := by
    by_cases h : i = j
    · rw [h]; simp
    · rw [decide_eq_false h, decide_eq_false (fun z => h (V.int.inj z))]
  rw [e]; exact q⟩
theorem e_eqS {i j : Str} (q : Q (.bl (decide (i = j))) H) : rEq (.str i) (.str j) H Q := ⟨rfl, by
  have e : decide (V.str i = V.str j) = decide (i = j) := by
    by_cases h : i = j
    · rw [h]; simp
    · rw [decide_eq_false h, decide_eq_false (fun z => h (V.str.inj z))]
  rw [e]; exact q⟩
theorem e_neS {i j : Str} (q : Q (.bl (!decide (i = j))) H) : rNe (.str i) (.str j) H Q := ⟨rfl, by
  have e : decide (V.str i = V.str j) = decide (i = j) := by
    by_cases h : i = j
    · rw [h]; simp
    · rw [decide_eq_false h, decide_eq_false (fun z => h (V.str.inj z))]
  rw [e]; exact q⟩
theorem e_eqB {i j : Bool} (q : Q (.bl (i == j)) H) : rEq (.bl i) (.bl j) H Q := ⟨rfl, by
  have e : decide (V.bl i = V.bl j) = (i == j) := by cases i <;> cases j <;> rfl
  rw [e]; exact q⟩
theorem e_neB {i j : Bool} (q : Q (.bl (i != j)) H) : rNe (.bl i) (.bl j) H Q := ⟨rfl, by
  have e : (!decide (V.bl i = V.bl j)) = (i != j) := by cases i <;> cases j <;> rfl
  rw [e]; exact q⟩
theorem e_test {Q : Bool → Hp → Prop} (q : te σ H fun x H' => ∃ k, x = .bl k ∧ Q k H') : tTest te σ H Q := q
theorem e_B {Q : Bool → Hp → Prop} (q : te σ H fun x H' => ∃ k, x = .bl k ∧ Q k H') : tB te σ H Q := q
theorem e_ex {b : Bool} {P : Bool → Prop} (q : P b) : ∃ k, V.bl b = .bl k ∧ P k := ⟨b, rfl, q⟩
theorem e_and {Q : Bool → Hp → Prop} (q : tt σ H fun c H1 => if c = true then tu σ H1 Q else Q false H1) : tAnd tt tu σ H Q := q
theorem e_or {Q : Bool → Hp → Prop} (q : tt σ H fun c H1 => if c = true then Q true H1 else tu σ H1 Q) : tOr tt tu σ H Q := q
theorem e_not {Q : Bool → Hp → Prop} (q : tt σ H fun c H1 => Q (!c) H1) : tNot tt σ H Q := q
theorem e_yes {Q : Bool → Hp → Prop} (q : Q true H) : tYes σ H Q := q
theorem e_andV (q : ta σ H fun x H1 => ∃ c, x = .bl c ∧ if c = true then tb σ H1 Q else Q (.bl false) H1) : tAndV ta tb σ H Q := q
theorem e_orV (q : ta σ H fun x H1 => ∃ c, x = .bl c ∧ if c = true then Q (.bl true) H1 else tb σ H1 Q) : tOrV ta tb σ H Q := q
theorem e_notV (q : ta σ H fun x H1 => ∃ c, x = .bl c ∧ Q (.bl (!c)) H1) : tNotV ta σ H Q := q
theorem e_if (q : tt σ H fun c H1 => if c = true then ta σ H1 Q else tb σ H1 Q) : tIf tt ta tb σ H Q := q
theorem e_chain (q : ta σ H fun x H1 => tb σ H1 fun y H2 => r x y H2 fun z H3 => ∃ k, z = .bl k ∧ (if k = true then tx σ H3 fun w' H4 => r' y w' H4 Q else Q (.bl false) H3)) : tChain r r' ta tb tx σ H Q := q
theorem e_seq (q : t { D with nx := u D } σ H) : tSeq t u D σ H := q
theorem e_next (q : D.nx σ H) : tNext D σ H := q
theorem e_break (q : D.bk σ H) : tBreak D σ H := q
theorem e_cont (q : D.ct σ H) : tCont D σ H := q
theorem e_drop (q : te σ H fun _ H1 => D.nx σ H1) : tDrop te D σ H := q
theorem e_ret (q : te σ H D.rt) : tRet te D σ H := q
theorem e_retN (q : D.rt .non H) : tRetN D σ H := q
theorem e_ifS (q : tt σ H fun b H1 => if b = true then t D σ H1 else u D σ H1) : tIfS tt t u D σ H := q
theorem e_asg {g : TG} (q : te σ H fun x H1 => g x σ H1 D.nx) : tAsg te g D σ H := q
theorem e_name {i : Nat} {Q : L2.St → Hp → Prop} (q : Q (σ.set i (some v)) H) : gName i v σ H Q := q
theorem e_sub {to ti : TE} {st : TSet} {Q : L2.St → Hp → Prop} (q : to σ H fun o H1 => ti σ H1 fun i H2 => st o i v H2 fun H3 => Q σ H3) : gSub to ti st v σ H Q := q
theorem e_aug {i : Nat} {ti : TIp} (h : σ[i]? = some (some x)) (q : te σ H fun y H1 => ti x y H1 fun z H2 => D.nx (σ.set i (some z)) H2) : tAug i te ti D σ H := ⟨x, h, q⟩
theorem e_nil {Q : List V → Hp → Prop} (q : Q [] H) : tNil σ H Q := q
theorem e_cons {Q : List V → Hp → Prop} (q : ta σ H fun x H1 => as σ H1 fun xs H2 => Q (x :: xs) H2) : tCons ta as σ H Q := q
theorem e_call {sp : Sp} {dvs : List V} {E : XK} (q : as σ H fun vs H1 => sp (vs ++ dvs) H1 Q E) : tCall sp dvs E as σ H Q := q
theorem e_CB {r : List V → Hp → VK → Prop} (q : as σ H fun vs H1 => r vs H1 Q) : tCB r as σ H Q := q
theorem e_tup (q : as σ H fun xs H1 => xs.length ≤ sizeLine ∧ ∀ p, H1 p = none → Q (.ref p) (upd H1 p (.tup xs))) : tTup as σ H Q := q
theorem e_lst (q : as σ H fun xs H1 => xs.length ≤ sizeLine ∧ ∀ p, H1 p = none → Q (.ref p) (upd H1 p (.lst xs))) : tLst as σ H Q := q
theorem e_sl {r : V → Option Int → Option Int → Hp → VK → Prop} {tl th : TO} (q : te σ H fun x H1 => tl σ H1 fun l H2 => th σ H2 fun u H3 => r x l u H3 Q) : tSl r te tl th σ H Q := q
theorem e_noP {Q : Option Int → Hp → Prop} (q : Q none H) : tNoPart σ H Q := q
theorem e_part {Q : Option Int → Hp → Prop} (q : te σ H fun x H1 => ∃ i, x = .int i ∧ Q (some i) H1) : tPart te σ H Q := q
theorem e_exI {i : Int} {P : Int → Prop} (q : P i) : ∃ k, V.int i = .int k ∧ P k := ⟨i, rfl, q⟩
theorem e_bm {T : String} {r : V → List V → Hp → VK → Prop} {to : TE} (q : to σ H fun x H1 => tyV K T x H1 ∧ as σ H1 fun xs H2 => r x xs H2 Q) : tBM K T r to as σ H Q := q
theorem e_for {wi : TI} {g : TG} (q : wi σ H fun J H1 => ForB J g t D σ H1) : tFor wi g t D σ H := q
theorem e_lc {wi : TI} {g : TG} {vs : List Nat} (q : wi σ H fun J H1 => ∀ D, H1 D = none → LcB J g tt te vs σ D H1 Q) : tLc wi g tt te vs σ H Q := q
theorem e_exS {i : Str} {P : Str → Prop} (q : P i) : ∃ k, V.str i = .str k ∧ P k := ⟨i, rfl, q⟩
theorem e_exR {a : Addr} {xs : List V} {P : Addr → Prop} (h : SqL K H a xs) (q : P a) : ∃ k, V.ref a = .ref k ∧ (∃ xs, SqL K H k xs) ∧ P k := ⟨a, rfl, ⟨xs, h⟩, q⟩
theorem e_exRT {a : Addr} {xs : List V} {P : Addr → Prop} (h : SqT K H a xs) (q : P a) : ∃ k, V.ref a = .ref k ∧ (∃ xs, SqT K H k xs) ∧ P k := ⟨a, rfl, ⟨xs, h⟩, q⟩
theorem e_rng1 {n : Int} {P : Int → Prop} (h1 : -(2 ^ 62) ≤ n) (h2 : n < 2 ^ 62) (q : P n) : ∃ j : Int, [V.int n] = [.int j] ∧ -(2 ^ 62) ≤ j ∧ j < 2 ^ 62 ∧ P j := ⟨n, rfl, h1, h2, q⟩
theorem e_rng2 {m n : Int} {P : Int → Int → Prop} (h : -(2 ^ 62) ≤ m ∧ m < 2 ^ 62 ∧ -(2 ^ 62) ≤ n ∧ n < 2 ^ 62) (q : P m n) : ∃ i j : Int, [V.int m, V.int n] = [.int i, .int j] ∧ (-(2 ^ 62) ≤ i ∧ i < 2 ^ 62 ∧ -(2 ^ 62) ≤ j ∧ j < 2 ^ 62) ∧ P i j := ⟨m, n, rfl, h, q⟩
theorem e_m0 {r : V → List V → Hp → VK → Prop} {to : TE} (q : to σ H fun x H1 => (∃ a, x = .str a) ∧ r x [] H1 Q) : tM0 r to σ H Q := q
theorem e_m1 {r : V → List V → Hp → VK → Prop} {to : TE} (q : to σ H fun x H1 => (∃ a, x = .str a) ∧ te σ H1 fun y H2 => r x [y] H2 Q) : tM1 r to te σ H Q := q
theorem e_slS {z : Str} {lo hi : Option Int} (h : z.length ≤ sizeLine) (q : Q (.str (cutS z lo hi)) H) : rSlS (.str z) lo hi H Q := ⟨z, rfl, h, q⟩
theorem e_iList {R : It → Hp → Prop} {tl : TE} (q : tl σ H fun x H1 => ∃ a, x = .ref a ∧ (∃ xs, SqL K H1 a xs) ∧ R (Itl K a) H1) : iList K tl σ H R := q
theorem e_iTup {R : It → Hp → Prop} {tl : TE} (q : tl σ H fun x H1 => ∃ a, x = .ref a ∧ (∃ xs, SqT K H1 a xs) ∧ R (Itt K a) H1) : iTup K tl σ H R := q
theorem e_iStr {R : It → Hp → Prop} {tl : TE} (q : tl σ H fun v H1 => ∃ x, v = .str x ∧ R (Its x) H1) : iStr tl σ H R := q
theorem e_iRng1 {R : It → Hp → Prop} (q : as σ H fun vs H1 => ∃ j : Int, vs = [.int j] ∧ -(2 ^ 62) ≤ j ∧ j < 2 ^ 62 ∧ R (Itr 0 j.toNat) H1) : iRng1 as σ H R := q
theorem e_iRng2 {R : It → Hp → Prop} (q : as σ H fun vs H1 => ∃ i j : Int, vs = [.int i, .int j] ∧ (-(2 ^ 62) ≤ i ∧ i < 2 ^ 62 ∧ -(2 ^ 62) ≤ j ∧ j < 2 ^ 62) ∧ R (Itr i (j - i).toNat) H1) : iRng2 as σ H R := q
theorem e_ixL {p : Addr} {xs : List V} {i : Int} (h : SqL K H p xs) (ha : atI xs i = some v) (q : Q v H) : rIxL K (.ref p) (.int i) H Q := ⟨p, xs, i, v, rfl, rfl, h, ha, q⟩
theorem e_ixT {p : Addr} {xs : List V} {i : Int} (h : SqT K H p xs) (ha : atI xs i = some v) (q : Q v H) : rIxT K (.ref p) (.int i) H Q := ⟨p, xs, i, v, rfl, rfl, h, ha, q⟩
theorem e_ixS {z : Str} {i : Int} {c : Nat} (hz : z.length ≤ sizeLine) (ha : atI z.cps.toList i = some c) (q : Q (.str ⟨#[c]⟩) H) : rIxS (.str z) (.int i) H Q := ⟨z, i, c, rfl, rfl, hz, ha, q⟩
theorem e_len {p : Addr} {ys : List V} (h : SqL K H p ys) (q : Q (.int ys.length) H) : ∃ p' ys', [V.ref p] = [V.ref p'] ∧ (SqL K H p' ys' ∨ SqT K H p' ys') ∧ Q (.int (ys'.length : Nat)) H := ⟨p, ys, rfl, .inl h, q⟩
theorem e_lenT {p : Addr} {ys : List V} (h : SqT K H p ys) (q : Q (.int ys.length) H) : ∃ p' ys', [V.ref p] = [V.ref p'] ∧ (SqL K H p' ys' ∨ SqT K H p' ys') ∧ Q (.int (ys'.length : Nat)) H := ⟨p, ys, rfl, .inr h, q⟩
theorem e_lenS {z : Str} (h : z.length ≤ sizeLine) (q : Q (.int z.length) H) : ∃ z', [V.str z] = [V.str z'] ∧ z'.length ≤ sizeLine ∧ Q (.int (z'.length : Nat)) H := ⟨z, rfl, h, q⟩
theorem e_int1 {i : Int} (q : Q (.int i) H) : (∃ i', [V.int i] = [V.int i'] ∧ Q (.int i') H) ∨ ∃ k, [V.int i] = [V.bl k] ∧ Q (.int (if k = true then 1 else 0)) H := .inl ⟨i, rfl, q⟩
theorem e_setL {p : Addr} {xs : List V} {k : Int} {j : Nat} {Q : Hp → Prop} (h : H p = some (.lst xs)) (hj : ixN xs.length k = some j) (q : Q (upd H p (.lst (xs.set j v)))) : rSetL (.ref p) (.int k) v H Q := ⟨p, xs, k, j, rfl, rfl, h, hj, q⟩
theorem e_cut {Mid : L2.St → Hp → Prop} (h1 : t { D with nx := Mid } σ H) (h2 : ∀ σ' H', Mid σ' H' → u D σ' H') : C8.tCut t u D σ H := ⟨Mid, h1, h2⟩
/-- a test that is known, or open -/
theorem i_T {A B : Prop} (h : A) : if true = true then A else B := by rw [if_pos rfl]; exact h
theorem i_F {A B : Prop} (h : B) : if false = true then A else B := by rw [if_neg Bool.false_ne_true]; exact h
theorem i_d {p : Prop} [Decidable p] {A B : Prop} (h1 : p → A) (h2 : ¬ p → B) : if decide p = true then A else B := by
  by_cases h : p
  · rw [decide_eq_true h]; exact i_T (h1 h)
  · rw [decide_eq_false h]; exact i_F (h2 h)
theorem i_nd {p : Prop} [Decidable p] {A B : Prop} (h1 : ¬ p → A) (h2 : p → B) : if (!decide p) = true then A else B := by
  by_cases h : p
  · rw [decide_eq_true h]; exact i_F (h2 h)
  · rw [decide_eq_false h]; exact i_T (h1 h)
theorem i_b {b : Bool} {A B : Prop} (h1 : b = true → A) (h2 : b = false → B) : if b = true then A else B := by
  cases b
  · exact i_F (h2 rfl)
  · exact i_T (h1 rfl)
theorem i_nself {b : Bool} {A B : Prop} (h : B) : if (!(b == b)) = true then A else B := by
  rw [beq_self_eq_true]; exact i_F h
theorem i_self {α : Type} [DecidableEq α] {x : α} {A B : Prop} (h : A) : if decide (x = x) = true then A else B := by
  rw [decide_eq_true rfl]; exact i_T h
theorem i_neself {α : Type} [DecidableEq α] {x : α} {A B : Prop} (h : B) : if (!decide (x = x)) = true then A else B := by
  rw [decide_eq_true rfl]; exact i_F h
theorem i_nb {b : Bool} {A B : Prop} (h1 : b = false → A) (h2 : b = true → B) : if (!b) = true then A else B := by
  cases b
  · exact i_T (h1 rfl)
  · exact i_F (h2 rfl)
end

section
variable {K : PySem.W.Frag} {H : Hp} {Q : VK}
theorem isi_ty {x : V} {t n : String} {b : Bool} (ty : TyX K H x (.type t)) (e : PySem.W.kitOne K (.type t) (.type n) = some b) (q : Q (.bl b) H) : rIsi K [x, .ty n] H Q := ⟨x, .ty n, _, _, b, rfl, .ty n, ty, e, q⟩
theorem isi_bb {x : Bool} (q : Q (.bl true) H) : rIsi K [.bl x, .ty "bool"] H Q := isi_ty (.base (.bl x)) (kit_ty (by decide +kernel)) q
theorem isi_ib {x : Int} (q : Q (.bl false) H) : rIsi K [.int x, .ty "bool"] H Q := isi_ty (.base (.int x)) (kit_ty (by decide +kernel)) q
theorem isi_bi {x : Bool} (q : Q (.bl true) H) : rIsi K [.bl x, .ty "int"] H Q := isi_ty (.base (.bl x)) (kit_ty (by decide +kernel)) q
theorem isi_ii {x : Int} (q : Q (.bl true) H) : rIsi K [.int x, .ty "int"] H Q := isi_ty (.base (.int x)) (kit_ty (by decide +kernel)) q
theorem isi_si {x : Str} (q : Q (.bl false) H) : rIsi K [.str x, .ty "int"] H Q := isi_ty (.base (.str x)) (kit_ty (by decide +kernel)) q
theorem isi_ni (q : Q (.bl false) H) : rIsi K [.non, .ty "int"] H Q := isi_ty (.base .non) (kit_ty (by decide +kernel)) q
theorem isi_tt {p : Addr} {xs : List V} (h : H p = some (.tup xs)) (q : Q (.bl true) H) : rIsi K [.ref p, .ty "tuple"] H Q := isi_ty (.base (.tup h)) (kit_ty (by decide +kernel)) q
theorem isi_ll {p : Addr} {xs : List V} (h : H p = some (.lst xs)) (q : Q (.bl true) H) : rIsi K [.ref p, .ty "list"] H Q := isi_ty (.base (.lst h)) (kit_ty (by decide +kernel)) q
theorem isi_lt {p : Addr} {xs : List V} (h : H p = some (.lst xs)) (q : Q (.bl false) H) : rIsi K [.ref p, .ty "tuple"] H Q := isi_ty (.base (.lst h)) (kit_ty (by decide +kernel)) q
end
/-! ### defs that are called by their names -/
structure Cal (P : Program) (w : World) (K : PySem.W.Frag) (mg : Str → Option Value) (base : Heap) (k : Nat) (x : Str) (sp : Sp) : Prop where
  ex : ∃ (f : Addr) (fd : FuncData) (ps : List Str), FnOk P w K mg base CX0 k f fd ps sp ∧ mg x = some (.ref f) ∧ PySem.W.keepIn K (.ref f) = true ∧ Binds K fd ps []
theorem pe_c {X : Cx} {k j : Nat} {x : Str} {sp : Sp} {p pos : Pos} {e : Expr} {es : List Expr} {t : TA} (c : Cal X.prog X.w X.K X.mg X.base k x sp) (hr : Room j X.A) (hk : k ≤ j) (hg : Gl X x) (ha : PA X (e :: es) t)
    (hdb : (x == ("__debug__" : Str)) = false := by decide) 
    (he : starEach (e :: es) X.env = (false, eval e X.env) :: starEach es X.env := by rfl) 
    (hpl : (backTo pos (starEach es X.env)).any (·.1) = false := by rfl) :
    PE X (.Call (.Name x p) (e :: es) [] pos) (tCall sp [] E0 t) := by
  obtain ⟨f, fd, ps, F, hm, kp, b⟩ := c.ex
  exact pe_call F (hr.mono hk) hg hm kp b .nil pass0 ha hdb he hpl
theorem pe_c0 {X : Cx} {k j : Nat} {x : Str} {sp : Sp} {p pos : Pos} (c : Cal X.prog X.w X.K X.mg X.base k x sp) (hr : Room j X.A) (hk : k ≤ j) (hg : Gl X x)
    (hdb : (x == ("__debug__" : Str)) = false := by decide) :
    PE X (.Call (.Name x p) [] [] pos) (tCall sp [] E0 tNil) := by
  obtain ⟨f, fd, ps, F, hm, kp, b⟩ := c.ex
  exact pe_call0 F (hr.mono hk) hg hm kp b .nil pass0 hdb

/-- promises by arity -/
abbrev sp0 (R : Hp → VK → Prop) : Sp := fun vs H Q _ => vs = [] ∧ R H Q
abbrev sp1 (R : V → Hp → VK → Prop) : Sp := fun vs H Q _ => ∃ a, vs = [a] ∧ R a H Q
abbrev sp2 (R : V → V → Hp → VK → Prop) : Sp := fun vs H Q _ => ∃ a b, vs = [a, b] ∧ R a b H Q
abbrev sp3 (R : V → V → V → Hp → VK → Prop) : Sp := fun vs H Q _ => ∃ a b c, vs = [a, b, c] ∧ R a b c H Q
abbrev sp4 (R : V → V → V → V → Hp → VK → Prop) : Sp := fun vs H Q _ => ∃ a b c d, vs = [a, b, c, d] ∧ R a b c d H Q


theorem sz_of {n : Nat} (h : n ≤ 1000000) : n ≤ sizeLine := Nat.le_trans h (by decide)
/-! ### heaps: all but one address as it was -/
def Kp (st : Addr) (H H' : Hp) : Prop := ∀ b o, b ≠ st → H b = some o → H' b = some o
theorem Kp.refl (st : Addr) (H : Hp) : Kp st H H := fun _ _ _ h => h
theorem Kp.trans {st : Addr} {H H1 H2 : Hp} (a : Kp st H H1) (b : Kp st H1 H2) : Kp st H H2 := fun c o n h => b c o n (a c o n h)
theorem Kp.of {st : Addr} {H H' : Hp} (a : Same H H') : Kp st H H' := fun c o _ h => a c o h
theorem same_new {H : Hp} {p : Addr} {o : HO} (h : H p = none) : Same H (upd H p o) := fun b x e => by
  rw [upd_ne (ne_of_none e h)]
  exact e
theorem Kp.new {st p : Addr} {H : Hp} {o : HO} (h : H p = none) : Kp st H (upd H p o) := Kp.of (same_new h)
/-- an object that was not there at first may change -/
theorem Kp.mut {st p : Addr} {H H' : Hp} {o : HO} (a : Kp st H H') (h : H p = none) : Kp st H (upd H' p o) := fun b x n e => by
  rw [upd_ne (ne_of_none e h)]
  exact a b x n e
theorem Kp.put {st : Addr} {H H' : Hp} {o : HO} (a : Kp st H H') : Kp st H (upd H' st o) := fun b x n e => by
  rw [upd_ne n]
  exact a b x n e
theorem Same.mut {p : Addr} {H H' : Hp} {o : HO} (a : Same H H') (h : H p = none) : Same H (upd H' p o) := fun b x e => by
  rw [upd_ne (ne_of_none e h)]
  exact a b x e
theorem Kp.free {st p : Addr} {H H' : Hp} (a : Kp st H H') (hs : ∃ o, H' st = some o) (h : H' p = none) : H p = none := by
  cases q : H p with
  | none => rfl
  | some o =>
    by_cases e : p = st
    · obtain ⟨o', h'⟩ := hs
      rw [e, h'] at h
      cases h
    · rw [a p o e q] at h
      cases h

/-- the state of the draws and the script: two ints at st, the script at sc whatever is drawn -/
structure Dr (K : PySem.W.Frag) (st sc : Addr) (ns : List Int) (H : Hp) : Prop where
  s : ∃ a b : Int, 0 ≤ a ∧ 0 ≤ b ∧ H st = some (.lst [.int a, .int b])
  sc : ∀ H', Kp st H H' → SqL K H' sc (ns.map V.int)
  len : ns.length ≤ 63
theorem Dr.kp {K : PySem.W.Frag} {st sc : Addr} {ns : List Int} {H H' : Hp} (d : Dr K st sc ns H) (k : Kp st H H') (s : ∃ a b : Int, 0 ≤ a ∧ 0 ≤ b ∧ H' st = some (.lst [.int a, .int b])) : Dr K st sc ns H' :=
  ⟨s, fun H2 k2 => d.sc H2 (k.trans k2), d.len⟩
theorem Dr.same {K : PySem.W.Frag} {st sc : Addr} {ns : List Int} {H H' : Hp} (d : Dr K st sc ns H) (k : Same H H') : Dr K st sc ns H' := by
  obtain ⟨a, b, h1, h2, h3⟩ := d.s
  exact d.kp (Kp.of k) ⟨a, b, h1, h2, k _ _ h3⟩
theorem Dr.seq {K : PySem.W.Frag} {st sc : Addr} {ns : List Int} {H : Hp} (d : Dr K st sc ns H) : SqL K H sc (ns.map V.int) := d.sc H (Kp.refl st H)
theorem sq_keep {K : PySem.W.Frag} {H H' : Hp} {a p : Addr} {xs : List V} (h : SqL K H a xs) (hp : H p = none) (k : Kp p H H') : SqL K H' a xs := by
  rcases h with (h | ⟨c9, h⟩) | h
  · exact .inl (.inl (k _ _ (ne_of_none h hp) h))
  · exact .inl (.inr ⟨c9, k _ _ (ne_of_none h hp) h⟩)
  · exact .inr h
theorem Dr.start {K : PySem.W.Frag} {st sc : Addr} {ns : List Int} {H : Hp} (h : SqL K H sc (ns.map V.int)) (hp : H st = none) (hl : ns.length ≤ 63) : Dr K st sc ns (upd H st (.lst [.int 0, .int 0])) :=
  ⟨⟨0, 0, by decide, by decide, upd_same⟩, fun H' k => sq_keep h hp fun b o n e => k b o n (by rw [upd_ne n]; exact e), hl⟩
theorem Dr.ne {K : PySem.W.Frag} {st sc p : Addr} {ns : List Int} {H : Hp} (d : Dr K st sc ns H) (h : H p = none) : p ≠ st := by
  obtain ⟨a, b, _, _, h3⟩ := d.s
  intro e
  rw [e, h3] at h
  cases h
theorem pick_int {l : List Int} {d : Int} (h0 : 0 ≤ d) (h1 : d < l.length) : ∃ n, n ∈ l ∧ atI (l.map V.int) d = some (.int n) := by
  have h : d.toNat < l.length := by omega
  exact ⟨l[d.toNat], List.getElem_mem h, at_of (j := d.toNat) (by omega) (by rw [List.getElem?_map, List.getElem?_eq_getElem h]; rfl)⟩
theorem pick_nat {l : List Nat} {d : Int} (h0 : 0 ≤ d) (h1 : d < l.length) : ∃ n, n ∈ l ∧ atI l d = some n := by
  have h : d.toNat < l.length := by omega
  obtain ⟨j, hj⟩ : ∃ j : Nat, d = (j : Int) := ⟨d.toNat, by omega⟩
  have h2 : j < l.length := by omega
  subst hj
  exact ⟨l[j], List.getElem_mem h2, atI_nat (List.getElem?_eq_getElem h2)⟩
theorem at_last {ns : List Int} (h : 0 < ns.length) : ∃ x, atI (ns.map V.int) (-1) = some (.int x) := by
  have e : ns = ns.dropLast ++ [ns.getLast (by intro q; rw [q] at h; cases h)] := (List.dropLast_concat_getLast _).symm
  rw [e, List.map_append]
  exact ⟨_, atI_last _ _⟩
theorem pick_sign {z : Str} {d : Int} (h0 : 0 ≤ d) (h1 : d < (z.length : Int)) : ∃ c, c ∈ z.cps.toList ∧ atI z.cps.toList d = some c :=
  pick_nat h0 (by simpa [Str.length] using h1)
theorem len_app (a b : Str) : (a ++ b).length = a.length + b.length := PySem.Str.length_append a b
/-- what a call behind which only the draws' state has changed hands on -/
def RDraw (K : PySem.W.Frag) (st sc : Addr) (ns : List Int) (H : Hp) (G : Hp → Prop) : Prop := Dr K st sc ns H ∧ ∀ H', Kp st H H' → Dr K st sc ns H' → G H'
theorem Dr.mut {K : PySem.W.Frag} {st sc p : Addr} {ns : List Int} {H0 H1 : Hp} {o : HO} (d0 : Dr K st sc ns H0) (d : Dr K st sc ns H1) (hp : H0 p = none) (k : Kp st H0 H1) : Dr K st sc ns (upd H1 p o) := by
  obtain ⟨a, b, h1, h2, h3⟩ := d.s
  exact d0.kp (k.mut hp) ⟨a, b, h1, h2, by rw [upd_ne (d0.ne hp).symm]; exact h3⟩
section
variable {K : PySem.W.Frag} {g : TG} {σ : L2.St} {te : TE} {vs : List Nat} {Q : VK} {Da st sc : Addr} {ns : List Int} {H0 : Hp}
/-- [e for k in range(..)], e with draws -/
theorem lc_dr {lo : Int} {n : Nat} (d0 : Dr K st sc ns H0) (hD : H0 Da = none) (hn : n ≤ 1000000) (Pe : V → Prop)
    (hs : ∀ (i : Nat) (H2 : Hp) (C : VK) (E : Hp → Prop), i < n → Kp st H0 H2 → Dr K st sc ns H2 → (∀ y H3, Kp st H2 H3 → Dr K st sc ns H3 → Pe y → C y H3) →
      g (.int (lo + i)) (wipe σ vs) H2 fun σ2 H2 => wipe σ2 vs = wipe σ vs ∧ tYes σ2 H2 fun b H3 => if b = true then te σ2 H3 C else E H3)
    (hd : ∀ (H : Hp) (xs : List V), Kp st H0 H → Dr K st sc ns H → H Da = some (.lst xs) → xs.length = n → (∀ x ∈ xs, Pe x) → Q (.ref Da) H) : LcB (Itr lo n) g tYes te vs σ Da H0 Q := by
  have nD := d0.ne hD
  refine lc_rng (fun i H2 => Kp st H0 H2 ∧ Dr K st sc ns H2 ∧ ∃ xs : List V, H2 Da = some (.lst xs) ∧ xs.length = i ∧ ∀ x ∈ xs, Pe x) ⟨Kp.new hD, d0.same (same_new hD), [], upd_same, rfl, fun _ hy => by cases hy⟩ (fun i H2 hi p => ?_) (fun H2 p => ?_)
  · obtain ⟨k4, d4, xs, e4, l4, o4⟩ := p
    refine hs i H2 _ _ hi k4 d4 fun y H3 k5 d5 hy => ?_
    refine ⟨xs, k5 _ _ nD e4, Nat.lt_of_le_of_lt (Nat.le_of_lt (by omega : xs.length < 1000001)) (by decide), (k4.trans k5).mut hD, Dr.mut d0 d5 hD (k4.trans k5), xs ++ [y], upd_same, by simp [l4], fun z hz => ?_⟩
    rcases List.mem_append.mp hz with h | h
    · exact o4 z h
    · rw [List.mem_singleton.mp h]; exact hy
  · obtain ⟨k4, d4, xs, e4, l4, o4⟩ := p
    exact hd H2 xs k4 d4 e4 l4 o4
/-- [e for k in range(..)], e a function of k -/
theorem lc_map_rng {lo : Int} {n : Nat} (hD : H0 Da = none) (hn : n ≤ 1000000) (f : Nat → V)
    (hs : ∀ (i : Nat) (H2 : Hp) (C : VK) (E : Hp → Prop), i < n → Same H0 H2 → (∀ H3, Same H2 H3 → C (f i) H3) →
      g (.int (lo + i)) (wipe σ vs) H2 fun σ2 H2 => wipe σ2 vs = wipe σ vs ∧ tYes σ2 H2 fun b H3 => if b = true then te σ2 H3 C else E H3)
    (hd : ∀ (H : Hp), Same H0 H → H Da = some (.lst ((List.range n).map f)) → Q (.ref Da) H) : LcB (Itr lo n) g tYes te vs σ Da H0 Q := by
  refine lc_rng (fun i H2 => Same H0 H2 ∧ H2 Da = some (.lst ((List.range i).map f))) ⟨same_new hD, upd_same⟩ (fun i H2 hi p => ?_) (fun H2 p => hd H2 p.1 p.2)
  obtain ⟨k4, e4⟩ := p
  refine hs i H2 _ _ hi k4 fun H3 k5 => ?_
  refine ⟨_, k5 _ _ e4, Nat.lt_of_le_of_lt (by simp; omega : _ ≤ 1000000) (by decide), Same.mut (k4.trans k5) hD, ?_⟩
  rw [upd_same, List.range_succ, List.map_append]
  rfl
/-- [e for x in xs], a list, e a function of x -/
theorem lc_map_lst {a : Addr} {xs : List V} (hS : SqL K H0 a xs) (hD : H0 Da = none) (hn : xs.length ≤ 1000000) (f : V → V)
    (hs : ∀ (x : V) (H2 : Hp) (C : VK) (E : Hp → Prop), x ∈ xs → Same H0 H2 → (∀ H3, Same H2 H3 → C (f x) H3) →
      g x (wipe σ vs) H2 fun σ2 H2 => wipe σ2 vs = wipe σ vs ∧ tYes σ2 H2 fun b H3 => if b = true then te σ2 H3 C else E H3)
    (hd : ∀ (H : Hp), Same H0 H → H Da = some (.lst (xs.map f)) → Q (.ref Da) H) : LcB (Itl K a) g tYes te vs σ Da H0 Q := by
  refine lc_lst (xs := xs) (fun pre H2 => Same H0 H2 ∧ H2 Da = some (.lst (pre.map f)) ∧ pre.length ≤ xs.length) ⟨same_new hD, upd_same, Nat.zero_le _⟩ (fun pre H2 p => p.1.seq hS) (fun pre x post H2 e p => ?_) (fun H2 p => hd H2 p.1 p.2.1)
  obtain ⟨k4, e4, l4⟩ := p
  refine hs x H2 _ _ (by rw [e]; simp) k4 fun H3 k5 => ?_
  refine ⟨_, k5 _ _ e4, Nat.lt_of_le_of_lt (by simp; omega : _ ≤ 1000000) (by decide), Same.mut (k4.trans k5) hD, ?_, by rw [e]; simp⟩
  rw [upd_same, List.map_append]
  rfl
end
/-- a draw: any number below the size -/
def spDraw (K : PySem.W.Frag) : Sp := sp3 fun a b c H Q => ∃ (st sc : Addr) (ns : List Int) (n : Int), a = .ref st ∧ b = .ref sc ∧ c = .int n ∧ Dr K st sc ns H ∧ 0 < n ∧ n < 2 ^ 60 ∧
  ∀ (d : Int) (H' : Hp), 0 ≤ d → d < n → Kp st H H' → Dr K st sc ns H' → Q (.int d) H'

abbrev FnP (K : PySem.W.Frag) (x : Str) (st : Stmt) (f : Addr) (fd : FuncData) : Prop :=
  FunD K x x (defArgs st) (defBody st) (defScope st) [] [] f fd
end Vf

namespace PySem
open Sem (wp)
theorem meets_enumerate_newTup (l : Addr) (row : Array Value) (ob : Obj) (cap : Nat) :
    Meets (Builtin.«enumerate.__new__» ⟨[.type "enumerate", .ref l], []⟩) (fun _ R s => (s.heap.get? l = some ob ∧ ob.cls = .type "tuple" ∧ ob.data = .seq row cap) ∧
      R (.ok (.ret (.ref (s.heap.push { cls := .type "tuple_iterator", data := .fields #[.ref l, .int 0 0] }).objs.size)))
        { s with heap := (s.heap.push { cls := .type "tuple_iterator", data := .fields #[.ref l, .int 0 0] }).push { cls := .type "enumerate", data := .fields #[.none, .bool false, .ref s.heap.objs.size, rawInt 0, .none, .none] } }) :=
  .of_wp fun prg w A R s h => by
    obtain ⟨hp, g, d, tk, os⟩ := s; obtain ⟨⟨hl9, wc, wd⟩, h⟩ := h
    have hsub := sub_enumerate
    have isT : Heap.IsTuple (Shared.heap ⟨hp, g, d, tk, os⟩) l row := ⟨_, hl9, wc, cap, wd⟩
    have q1 : ∀ {A' : Around} {E : Value → Shared → Prop} {Q : Value → Shared → Prop}, Q (.ref hp.objs.size) ⟨hp.push { cls := .type "tuple_iterator", data := .fields #[.ref l, .int 0 0] }, g, d, tk, os⟩ → wpAny (model prg w) A' (pyIter (.ref l)) Q E ⟨hp, g, d, tk, os⟩ :=
      fun q => wpAny_pyIter_tuple isT q
    wp_walk using q1
    refine wpAny_stack_any fun here => wpAny_pure ?_
    split
    · rename_i cls9 _ _ _ _ _
      cases (cls9 == Value.type "enumerate")
      · wp_walk using q1
        exact ⟨_, rfl, h⟩
      · wp_walk using q1
        exact ⟨_, rfl, h⟩
    · wp_walk using q1
      exact ⟨_, rfl, h⟩
section
variable {prg : Program} {w : World} {A : Around} {E : Value → Shared → Prop} {s : Shared}
/-- the object that enumerate makes, and the turning over a tuple -/
abbrev enOf (it : Addr) : Obj := { data := .fields #[.none, .bool false, .ref it, rawInt 0, .none, .none], cls := .type "enumerate" }
abbrev tiOf (l : Addr) : Obj := { data := .fields #[.ref l, .int 0 0], cls := .type "tuple_iterator" }
theorem call_enumerate_tup {l : Addr} {row : Array Value} {Q : Value → Shared → Prop} (isT : s.heap.IsTuple l row)
    (h : ∀ h', IsEnum h' (s.heap.objs.size + 1) s.heap.objs.size 0 .none → h'.IsTupleIter s.heap.objs.size l 0 → h'.objs.size = s.heap.objs.size + 2 →
      (∀ bb ob, s.heap.get? bb = some ob → h'.get? bb = some ob) → Q (.ref (s.heap.objs.size + 1)) { s with heap := h' }) :
    wpAny (model prg w) A
      (call (.type "enumerate") [.ref l]) Q E s := by
  obtain ⟨ob, hl9, wc, cap, wd⟩ := isT
  refine callType_new F.called_enumerate (by decide) (F.typeCall_enumerate_1 _)
    (F.newCall_enumerate_1 _) (fun it => F.args_object_init_2 it _) F.entry_enumerate_new (meets_enumerate_newTup l row ob cap) ⟨⟨hl9, wc, wd⟩, ?_⟩
  have szz : (s.heap.push (tiOf l)).objs.size = s.heap.objs.size + 1 := Heap.size_push ..
  show _ ∧ _
  rw [szz]
  have qe : IsEnum ((s.heap.push (tiOf l)).push
      (enOf s.heap.objs.size)) (s.heap.objs.size + 1) s.heap.objs.size 0 .none := by
    have := Heap.get?_push_size (s.heap.push (tiOf l))
      (o := enOf s.heap.objs.size) rfl
    rw [szz] at this; exact this
  refine ⟨⟨_, qe, rfl⟩, h _ qe ⟨_, Heap.get?_push_of_some _ (Heap.get?_push_size _ rfl), rfl, rfl⟩ (by rw [Heap.size_push, szz]) fun bb ob x => Heap.get?_push_of_some _ (Heap.get?_push_of_some _ x)⟩
theorem enumT_end {e it t : Addr} {i : Nat} {row : Array Value} {prev : Value} {Q : Option Value → Shared → Prop} (hh : A.handled = none)
    (qe : IsEnum s.heap e it i prev) (qi : s.heap.IsTupleIter it t i) (hl9 : s.heap.IsTuple t row) (ne2 : t ≠ it) (atx : row[i]? = none)
    (hQ : ∀ h', Heap.ExtBut it s.heap h' → Q none { s with heap := h' }) : wpAny (model prg w) A (pyNext (.ref e)) Q E s := by
  have ty1 : s.TypeIs (.ref e) "enumerate" := ⟨_, qe, rfl⟩
  unfold pyNext
  refine wpAny_bind (wpAny_attempt (wpAny_callSpecial?_slot (name := Str.ofString "__next__") ty1 F.slot_enumerate_next
    (wpAny_call_entry F.slot_enumerate_next ty1 F.entry_enumerate_next ?_ (F.args_enumerate_next_1 _))))
  show wpAny (model prg w) A.in1
    (field (.ref e) 2 >>= _) _ _ s
  refine wpAny_bind (wpAny_field qe rfl (x := .ref it) rfl ?_)
  refine wpAny_bind (wpAny_nextOf_tuple_end hh qi hl9 atx fun h' x he' hx' => ?_)
  obtain ⟨ob, wo, wc⟩ := hx'
  refine wpAny_bind (wpAny_isInstance (T := "StopIteration") (b := true) ⟨ob, wo, wc⟩ isSubtype_stop ?_)
  exact wpAny_pure (hQ _ he')
end
end PySem
namespace Vf
open PySem L2 PySem.Spec PyProof.Rows
/-- enumerate(t), t a tuple -/
def IteT (K : PySem.W.Frag) (a : Addr) : It :=
  ⟨fun i H => ∃ (xs : List V) (x : V), SqT K H a xs ∧ xs[i]? = some x, fun i H v H' => ∃ T x, v = .ref T ∧ H T = none ∧ H' = upd H T (.tup [.int (i : Nat), x]) ∧ ∀ xs, SqT K H a xs → xs[i]? = some x, fun i H => ∃ xs : List V, SqT K H a xs ∧ xs.length ≤ i⟩
theorem turn_enumT {P : Program} {w : World} {K : PySem.W.Frag} {elts : List Expr} {kk : Nat} {tpos : Pos} (a e it : Addr) :
    Turn P w K (.Tuple elts kk tpos) (IteT K a) [e, it] e (fun i h => (∃ prev, IsEnum h e it ((i : Nat) : Int) prev) ∧ h.IsTupleIter it a i ∧ e ≠ it) where
  mem := by simp
  obj := fun i h here bb mb => by
    obtain ⟨⟨prev, qe⟩, ⟨ob, wo, wc, wd⟩, _⟩ := here
    have e' : bb = e ∨ bb = it := by simpa using mb
    rcases e' with z | z
    · rw [z]; exact ⟨_, qe, fun v q => nomatch q⟩
    · rw [z]; exact ⟨ob, wo, fun v q => by rw [wd] at q; cases q⟩
  keep := fun i h h' here k => let ⟨⟨prev, qe⟩, hi9, qn⟩ := here; ⟨⟨prev, k e (by simp) _ qe⟩, hi9.at fun ob q => k it (by simp) ob q, qn⟩
  item := by
    intro X hP hw hK wc i pins s σ H E I fp here got
    subst hP hw hK
    obtain ⟨⟨prev, qe⟩, qi, qn⟩ := here
    obtain ⟨xs, x, wq, atx⟩ := got
    obtain ⟨cells, rds, p, szz⟩ := I.tuple wq
    obtain ⟨u, mu, rdu⟩ := rds.get atx
    have le1 : e < s.heap.objs.size := Heap.lt_size qe
    have le2 : it < s.heap.objs.size := by obtain ⟨_, q, _⟩ := qi; exact Heap.lt_size q
    have ne1 : a ≠ e := by
      intro z
      obtain ⟨ob, wo, hc2, _⟩ := p
      rw [z, qe] at wo
      cases wo
      injection hc2 with q
      exact absurd q (by decide)
    have ne2 : a ≠ it := by
      intro z
      obtain ⟨ob, wo, hc2, _⟩ := p
      obtain ⟨o2, ho2, hc3, _⟩ := qi
      rw [z, ho2] at wo
      cases wo
      rw [hc3] at hc2
      injection hc2 with q
      exact absurd q (by decide)
    have hlt : i < cells.toArray.size := by
      have := (List.getElem?_eq_some_iff.mp mu).1
      simpa using this
    refine wpAny_pyNext_enum_itemD (Draws.tuple (A := X.A.in1) (show X.A.in1.handled = none from I.ok.hd wc) it a ne2 cells.toArray) qe ⟨qi, p⟩ hlt qn (by simp [qn, Ne.symm ne1]) fun x' h' tk hP wo hst' ty1 hsz keep1 => ?_
    have ex : x' = u := by
      have q1 : cells[i]? = some x' := by simpa using hP
      exact Option.some.inj (q1.symm.trans mu)
    subst ex
    refine ⟨_, rfl, wpAny_letOwnedTupleGo_enum (s := { s with heap := h', toks := tk + 1 }) wo fun h'' he' only1 => ?_⟩
    have ty2 : h''.get? s.heap.objs.size = some { cls := .type "tuple", data := .seq #[.int i tk, x'] } := (only1.2 _ (Nat.ne_of_gt le1)).trans ty1
    have fresh1 : ObjOk X.prog X.w (upd H s.heap.objs.size (.tup [.int (i : Nat), x])) h'' s.heap.objs.size (.tup [.int (i : Nat), x]) :=
      ⟨by show 2 ≤ sizeLine; decide, [.int i tk, x'], .cons ⟨_, rfl⟩ (.cons rdu .nil), ⟨_, ty2, rfl, _, rfl⟩⟩
    have J1 : Inv X pins σ (upd H s.heap.objs.size (.tup [.int (i : Nat), x])) { s with heap := h'', toks := tk + 1 } :=
      I.turnedNew (ch := [e, it]) (fun bb ob mb q => (only1.2 bb (fun z => mb (by simp [z]))).trans (keep1 bb ob (fun z => mb (by simp [z])) (fun z => mb (by simp [z])) q)) fp (Nat.le_refl _) fresh1
    refine ⟨.ref s.heap.objs.size, _, J1, rfl, ⟨_, x, rfl, I.hok.fresh (Nat.le_refl _), rfl, fun ys hy => by rw [I.tuple_inj hy wq]; exact atx⟩, ⟨⟨x', ?_⟩, hst'.1.at fun ob q => (only1.2 it (Ne.symm qn)).trans q, qn⟩, fun bb mb => ?_⟩
    · have up1 : ((i + 1 : Nat) : Int) = (i : Int) + 1 := by
        omega
      rw [up1]; exact he'
    · have below : bb < s.heap.objs.size := by
        have two : bb = e ∨ bb = it := by simpa using mb
        rcases two with rfl | rfl
        · exact le1
        · exact le2
      rw [upd_ne (Nat.ne_of_lt below)]
      exact (fp bb mb).1
  done := by
    intro X hP hw hK wc i pins s σ H E I fp here got
    subst hP hw hK
    obtain ⟨⟨prev, qe⟩, qi, qn⟩ := here
    obtain ⟨xs, wq, atx⟩ := got
    obtain ⟨cells, rds, p, szz⟩ := I.tuple wq
    obtain ⟨f0, f1, f2, f3, f4, f5⟩ := fp it (by simp)
    have hl := rds.length
    have ne2 : a ≠ it := by
      intro z
      obtain ⟨ob, wo, hc2, _⟩ := p
      obtain ⟨o2, ho2, hc3, _⟩ := qi
      rw [z, ho2] at wo
      cases wo
      rw [hc3] at hc2
      injection hc2 with q
      exact absurd q (by decide)
    refine enumT_end (I.ok.hd wc) qe qi p ne2 (by simp; omega) fun h' eb => ⟨rfl, I.turned (t' := s.toks) (fun bb ob mb q => eb bb ob mb q) f0 f1 f3 f4 f5⟩
  self := fun A i s Q E here h => let ⟨⟨_, qe⟩, _⟩ := here; wpAny_pyIter_enum qe h
def iEnumT (K : PySem.W.Frag) (ta : TA) : TI := fun σ H R => ta σ H fun vs H1 => ∃ a xs, vs = [.ref a] ∧ SqT K H1 a xs ∧ R (IteT K a) H1
theorem pi_enumT {X : Cx} {e : Expr} {ta : TA} {p pos tpos : Pos} {elts : List Expr} {kk : Nat} (got : Gl X "enumerate") (hm : X.mg "enumerate" = none) (ha : PA X [e] ta) (hs : starEach [e] X.env = [(false, eval e X.env)] := by rfl) :
    PI X (.Tuple elts kk tpos) (.Call (.Name "enumerate" p) [e] [] pos) (iEnumT X.K ta) := by
  constructor
  intro pins s σ H R I h
  refine Call_ (ld_blt I got hm boot_enumerate (PyProof.Rows.callWith_type1 (thn (ha.run pos pins s σ H _ I h) fun us s1 ⟨vs, H1, J1, r1, q1⟩ => ?_) hs rfl))
  obtain ⟨a, xs, ex, wq, q⟩ := q1
  subst ex
  cases r1 with
  | cons r rr =>
    cases rr
    cases r
    obtain ⟨cells, rds, p', szz⟩ := J1.tuple wq
    refine call_enumerate_tup p' fun h' qe qi hsz keep1 => wpAny_pyIter_enum qe ?_
    have J2 : Inv X pins σ H1 { s1 with heap := h' } := J1.kept (t' := s1.toks) keep1
    refine ⟨s1.heap.objs.size + 1, [s1.heap.objs.size + 1, s1.heap.objs.size], _, _, H1, rfl, J2, turn_enumT a (s1.heap.objs.size + 1) s1.heap.objs.size, ⟨⟨.none, qe⟩, qi, Nat.succ_ne_self _⟩, fun bb mb => ?_, q⟩
    have e' : bb = s1.heap.objs.size + 1 ∨ bb = s1.heap.objs.size := by simpa using mb
    have above : bb ≥ s1.heap.objs.size := by
      rcases e' with w9 | w9 <;> rw [w9]
      · exact Nat.le_succ _
      · exact Nat.le.refl
    exact J1.fpOk above (J1.hok.fresh above)
/-- enumerate of a list or of a tuple -/
theorem pi_or {X : Cx} {tg l : Expr} {w1 w2 : TI} (h1 : PI X tg l w1) (h2 : PI X tg l w2) : PI X tg l (fun σ H R => w1 σ H R ∨ w2 σ H R) := ⟨fun pins s σ H R I h => by
  rcases h with h | h
  · exact h1.run pins s σ H R I h
  · exact h2.run pins s σ H R I h⟩
end Vf

namespace Vf
open PySem L2 PySem.Spec PyProof.Rows
/-! ### rules with the written part named (inside a comprehension nothing may lean on its block) -/
section
variable {X : Cx} (K : PySem.W.Frag) {pos : Pos}
theorem ixL (hK : X.K = K := by rfl) : IxR X (rIxL K) := hK ▸ ix_list
theorem ixT (hK : X.K = K := by rfl) : IxR X (rIxT K) := hK ▸ ix_tup
theorem slL (hK : X.K = K := by rfl) : SlR X (rSlL K) := hK ▸ sl_list
theorem slT (hK : X.K = K := by rfl) : SlR X (rSlA K) := hK ▸ sl_tupA
theorem eqDK (hu : X.A.units + 64 < cLine) (hK : X.K = K := by rfl) : OpR X (compareOp .Eq) (rEqD K) := hK ▸ op_eqD hu
theorem neDK (hu : X.A.units + 64 < cLine) (hK : X.K = K := by rfl) : OpR X (compareOp .NotEq) (rNeD K) := hK ▸ op_neD hu
theorem inSK (hK : X.K = K := by rfl) : OpR X (compareOp .In) (rIn K false) := hK ▸ op_in_seq
theorem niSK (hK : X.K = K := by rfl) : OpR X (compareOp .NotIn) (rIn K true) := hK ▸ op_notIn_seq
theorem lenSK (hK : X.K = K := by rfl) : CallR X (.builtin "len") (fun xs H Q => ∃ p ys, xs = [.ref p] ∧ (SqL K H p ys ∨ SqT K H p ys) ∧ Q (.int (ys.length : Nat)) H) := hK ▸ call_len_seq
theorem lstOK (hK : X.K = K := by rfl) : CallR X (.type "list") (fun xs H Q => ∃ p ys, xs = [.ref p] ∧ (SqL K H p ys ∨ SqT K H p ys) ∧ ∀ l, H l = none → Q (.ref l) (upd H l (.lst ys))) := hK ▸ call_list_of
theorem isiK (hK : X.K = K := by rfl) : CallR X (.builtin "isinstance") (rIsi K) := hK ▸ call_isi
theorem pe_fldK {e : Expr} {f : Str} {ta : TE} (ha : PE X e ta) (hb : attributeBase e f X.env (eval e X.env) = eval e X.env := by rfl) (hK : X.K = K := by rfl) : PE X (.Attribute e f pos) (tFld K ta f) := hK ▸ pe_fld ha hb
theorem pg_tupK {es : List Expr} {k : Nat} {t : TGs} {n : Nat} (hc : X.calm = true) (h : PGs X es t)
    (hn : (assignEach es X.env).length = n := by rfl) (hst : (assignEach es X.env).findIdx? (·.1) = none := by rfl) (hK : X.K = K := by rfl) : PG X (.Tuple es k pos) (gTup K n t) := hK ▸ pg_tup hc h hn hst
end
/-! ### readings of these -/
section
variable {σ : L2.St} {H : Hp} {K : PySem.W.Frag} {ta tb : TE} {as : TA}
theorem e_iRevR {tr : L2.St → Hp → (Int → Int → Hp → Prop) → Prop} {R : It → Hp → Prop} (q : tr σ H fun a b H1 => -(2 ^ 62) ≤ a ∧ a < 2 ^ 62 ∧ -(2 ^ 62) ≤ b ∧ b < 2 ^ 62 ∧ R (Itc (a + (((b - a).toNat : Nat) : Int) - 1) (-1) (b - a).toNat) H1) : iRevR tr σ H R := q
theorem e_rg1 {Q : Int → Int → Hp → Prop} (q : ta σ H fun x H1 => ∃ n, x = .int n ∧ Q 0 n H1) : tRg1 ta σ H Q := q
theorem e_rg2 {Q : Int → Int → Hp → Prop} (q : ta σ H fun x H1 => tb σ H1 fun y H2 => ∃ i j, x = .int i ∧ y = .int j ∧ Q i j H2) : tRg2 ta tb σ H Q := q
theorem e_iEnum {R : It → Hp → Prop} (q : as σ H fun vs H1 => ∃ a xs, vs = [.ref a] ∧ SqL K H1 a xs ∧ R (Ite K a) H1) : iEnum K as σ H R := q
theorem e_iEnumT {R : It → Hp → Prop} (q : as σ H fun vs H1 => ∃ a xs, vs = [.ref a] ∧ SqT K H1 a xs ∧ R (IteT K a) H1) : iEnumT K as σ H R := q
theorem e_iRng3 {R : It → Hp → Prop} (q : as σ H fun vs H1 => ∃ (i j c : Int) (n : Nat), vs = [.int i, .int j, .int c] ∧ RgC i j c n ∧ R (Itc i c n) H1) : iRng3 as σ H R := q
theorem e_slL {Q : VK} {p : Addr} {xs : List V} {lo hi : Option Int} (h : SqL K H p xs) (q : ∀ r, H r = none → Q (.ref r) (upd H r (.lst (cutV xs lo hi)))) : rSlL K (.ref p) lo hi H Q := ⟨p, xs, rfl, h, q⟩
theorem e_app {Q : VK} {l : Addr} {xs : List V} {y : V} (h : H l = some (.lst xs)) (hz : xs.length < sizeLine) (q : Q .non (upd H l (.lst (xs ++ [y])))) : rAppend (.ref l) [y] H Q := ⟨l, xs, y, rfl, rfl, h, hz, q⟩
theorem e_ext {Q : VK} {l b : Addr} {xs zs : List V} (h : H l = some (.lst xs)) (hb : H b = some (.lst zs)) (hz : xs.length + zs.length ≤ sizeLine) (q : Q .non (upd H l (.lst (xs ++ zs)))) : rExtend (.ref l) [.ref b] H Q := ⟨l, b, xs, zs, rfl, rfl, h, hb, hz, q⟩
end
/-! ### rows of ints as data -/
abbrev Di (l : List Int) : List PyData := l.map PyData.int
theorem dpAll_ints {K : PySem.W.Frag} {H : Hp} : ∀ xs : List Int, DpAll K H (xs.map V.int) (Di xs)
  | [] => .nil
  | x :: r => .cons (.int x) (dpAll_ints r)
theorem eqvAll_ints : ∀ xs ys : List Int, PyData.eqvAll (Di xs) (Di ys) = decide (xs = ys)
  | [], [] => by
      simp [PyData.eqvAll]
  | [], _ :: _ => by
      simp [PyData.eqvAll]
  | _ :: _, [] => by
      simp [PyData.eqvAll]
  | x :: xs, y :: ys => by
    have ih := eqvAll_ints xs ys
    show (PyData.eqv (.int x) (.int y) && PyData.eqvAll (Di xs) (Di ys)) = _
    rw [ih]
    show ((x == y) && decide (xs = ys)) = decide (x :: xs = y :: ys)
    by_cases h : x = y
    · subst h; simp
    · simp [h]
theorem canAll_ints : ∀ xs : List Int, PyData.canLayAll0 (Di xs) = true
  | [] => rfl
  | x :: r => by
    show (PyData.canLay0 (.int x) && PyData.canLayAll0 (Di r)) = true
    rw [canAll_ints r]; rfl
theorem depthAll_ints : ∀ xs : List Int, PyData.depthAll (Di xs) = 0
  | [] => rfl
  | x :: r => by
    show max 0 (PyData.depthAll (Di r)) = 0
    rw [depthAll_ints r]; rfl
theorem shaped_list {ds : List PyData} (h1 : PyData.canLayAll0 ds = true) (h2 : PyData.depthAll ds ≤ 60) : SeqAt.shaped (.list ds) = true := by
  unfold SeqAt.shaped
  rw [show PyData.canLay0 (.list ds) = PyData.canLayAll0 ds from rfl, h1, show PyData.depth (.list ds) = PyData.depthAll ds + 1 from rfl]
  simp
  omega
theorem shaped_tuple {ds : List PyData} (h1 : PyData.canLayAll0 ds = true) (h2 : PyData.depthAll ds ≤ 60) : SeqAt.shaped (.tuple ds) = true := by
  unfold SeqAt.shaped
  rw [show PyData.canLay0 (.tuple ds) = PyData.canLayAll0 ds from rfl, h1, show PyData.depth (.tuple ds) = PyData.depthAll ds + 1 from rfl]
  simp
  omega
theorem shaped_li (xs : List Int) : SeqAt.shaped (.list (Di xs)) = true := shaped_list (canAll_ints xs) (by rw [depthAll_ints]; decide)
theorem shaped_ti (xs : List Int) : SeqAt.shaped (.tuple (Di xs)) = true := shaped_tuple (canAll_ints xs) (by rw [depthAll_ints]; decide)
section
variable {K : PySem.W.Frag} {H : Hp} {Q : VK} {a b : Addr} {xs ys : List Int}
theorem e_eqLL (h1 : SqL K H a (xs.map V.int)) (h2 : SqL K H b (ys.map V.int)) (q : Q (.bl (decide (xs = ys))) H) : rEqD K (.ref a) (.ref b) H Q :=
  ⟨_, _, .lst h1 (dpAll_ints xs), .lst h2 (dpAll_ints ys), shaped_li xs, shaped_li ys, by rw [show PyData.eqv (.list (Di xs)) (.list (Di ys)) = PyData.eqvAll (Di xs) (Di ys) from rfl, eqvAll_ints]; exact q⟩
theorem e_neLL (h1 : SqL K H a (xs.map V.int)) (h2 : SqL K H b (ys.map V.int)) (q : Q (.bl (!decide (xs = ys))) H) : rNeD K (.ref a) (.ref b) H Q :=
  ⟨_, _, .lst h1 (dpAll_ints xs), .lst h2 (dpAll_ints ys), shaped_li xs, shaped_li ys, by rw [show PyData.eqv (.list (Di xs)) (.list (Di ys)) = PyData.eqvAll (Di xs) (Di ys) from rfl, eqvAll_ints]; exact q⟩
theorem e_eqTT (h1 : SqT K H a (xs.map V.int)) (h2 : SqT K H b (ys.map V.int)) (q : Q (.bl (decide (xs = ys))) H) : rEqD K (.ref a) (.ref b) H Q :=
  ⟨_, _, .tup h1 (dpAll_ints xs), .tup h2 (dpAll_ints ys), shaped_ti xs, shaped_ti ys, by rw [show PyData.eqv (.tuple (Di xs)) (.tuple (Di ys)) = PyData.eqvAll (Di xs) (Di ys) from rfl, eqvAll_ints]; exact q⟩
theorem e_neTT (h1 : SqT K H a (xs.map V.int)) (h2 : SqT K H b (ys.map V.int)) (q : Q (.bl (!decide (xs = ys))) H) : rNeD K (.ref a) (.ref b) H Q :=
  ⟨_, _, .tup h1 (dpAll_ints xs), .tup h2 (dpAll_ints ys), shaped_ti xs, shaped_ti ys, by rw [show PyData.eqv (.tuple (Di xs)) (.tuple (Di ys)) = PyData.eqvAll (Di xs) (Di ys) from rfl, eqvAll_ints]; exact q⟩
end
/-! ### the order of alike data -/
def rLtD (K : PySem.W.Frag) : R2 := fun x y H Q => ∃ d e, Dp K H x d ∧ Dp K H y e ∧ PySem.W.alike d e = true ∧ d ≠ .none ∧ d.depth ≤ 60 ∧ Q (.bl (PySem.W.dataLt d e)) H
def rGtD (K : PySem.W.Frag) : R2 := fun x y H Q => ∃ d e, Dp K H x d ∧ Dp K H y e ∧ PySem.W.alike d e = true ∧ d ≠ .none ∧ d.depth ≤ 60 ∧ Q (.bl (PySem.W.dataLt e d)) H
theorem op_ltD {X : Cx} (hu : X.A.units + 64 < cLine) : OpR X (compareOp .Lt) (rLtD X.K) := by
  intro pins s σ H x y v u C I rx ry hq
  obtain ⟨d, e, hd, he, sd, se, hp, q⟩ := hq
  obtain ⟨toks1, r1⟩ := Dp.reads I d x v hd rx
  obtain ⟨toks2, r2⟩ := Dp.reads I e y u he ry
  exact PySem.W.lt_data r1 r2 sd se (by have := Nat.min_le_left d.depth e.depth; omega) ⟨.bl _, H, I, rfl, q⟩
theorem op_gtD {X : Cx} (hu : X.A.units + 64 < cLine) : OpR X (compareOp .Gt) (rGtD X.K) := by
  intro pins s σ H x y v u C I rx ry hq
  obtain ⟨d, e, hd, he, sd, se, hp, q⟩ := hq
  obtain ⟨toks1, r1⟩ := Dp.reads I d x v hd rx
  obtain ⟨toks2, r2⟩ := Dp.reads I e y u he ry
  exact PySem.W.gt_data r1 r2 sd se (by have := Nat.min_le_left d.depth e.depth; omega) ⟨.bl _, H, I, rfl, q⟩
theorem alikeAll_ints : ∀ xs ys : List Int, PySem.W.alikeAll (Di xs) (Di ys) = true
  | [], _ => by simp [PySem.W.alikeAll]
  | _ :: _, [] => by simp [PySem.W.alikeAll]
  | x :: xs, y :: ys => by
    show (PySem.W.alike (.int x) (.int y) && PySem.W.alikeAll (Di xs) (Di ys)) = true
    rw [alikeAll_ints xs ys]; rfl
theorem lt_ints : ∀ xs ys : List Int, PyProof.Rows.lexLt PyProof.Rows.itemOrd (PySem.W.keyToksAll (Di xs)) (PySem.W.keyToksAll (Di ys)) = HT.lexLt xs ys
  | [], [] => by decide
  | [], y :: ys => by
    show PyProof.Rows.lexLt PyProof.Rows.itemOrd [.inl 0] (.inl 1 :: _) = true
    rw [PySem.W.lex_atom (by decide)]
    decide
  | x :: xs, [] => by
    show PyProof.Rows.lexLt PyProof.Rows.itemOrd (.inl 1 :: _) [.inl 0] = false
    rw [PySem.W.lex_atom (by decide)]
    decide
  | x :: xs, y :: ys => by
    have ih := lt_ints xs ys
    show _ = if x = y then HT.lexLt xs ys else decide (x < y)
    by_cases h : x = y
    · subst h
      rw [if_pos rfl, ← ih]
      exact PySem.W.dataLt_all_yes (x := .int x) (y := .int x) rfl (by simp [PyData.eqv])
    · rw [if_neg h, ← PySem.W.dataLt_int x y]
      exact PySem.W.dataLt_all_no (x := .int x) (y := .int y) rfl (by simpa [PyData.eqv] using h)
theorem e_ltLL {K : PySem.W.Frag} {H : Hp} {Q : VK} {a b : Addr} {xs ys : List Int} (h1 : SqL K H a (xs.map V.int)) (h2 : SqL K H b (ys.map V.int)) (q : Q (.bl (HT.lexLt xs ys)) H) : rLtD K (.ref a) (.ref b) H Q :=
  ⟨_, _, .lst h1 (dpAll_ints xs), .lst h2 (dpAll_ints ys), alikeAll_ints xs ys, by simp, by show PyData.depthAll (Di xs) + 1 ≤ 60; rw [depthAll_ints]; decide, by
    rw [PySem.W.dataLt_list, lt_ints]; exact q⟩
/-! ### loops over rows of ints -/
theorem at_split {ns : List Int} {i : Nat} {x : V} (hx : (ns.map V.int)[i]? = some x) : ∃ y, x = .int y ∧ ns = ns.take i ++ y :: ns.drop (i + 1) ∧ ns.take (i + 1) = ns.take i ++ [y] := by
  rw [List.getElem?_map] at hx
  cases e : ns[i]? with
  | none => rw [e] at hx; cases hx
  | some y =>
    rw [e] at hx
    have e2 := (List.getElem?_eq_some_iff.mp e).2
    refine ⟨y, (Option.some.inj hx).symm, ?_, by rw [List.take_add_one, e]; rfl⟩
    rw [← e2, List.getElem_cons_drop, List.take_append_drop]
section
variable {K : PySem.W.Frag} {g : TG} {t : TS} {D : Ends} {σ : L2.St} {H : Hp} {tt : TT} {te : TE} {vs : List Nat} {Q : VK} {Da a : Addr} {ns : List Int}
theorem for_ints (Pv : List Int → L2.St → Hp → Prop) (h0 : Pv [] σ H) (hl : ∀ pre σ H, Pv pre σ H → SqL K H a (ns.map V.int))
    (hs : ∀ (pre : List Int) (x : Int) (post : List Int) σ H, ns = pre ++ x :: post → Pv pre σ H → g (.int x) σ H fun σ2 H2 => t { D with nx := Pv (pre ++ [x]), ct := Pv (pre ++ [x]), bk := D.nx } σ2 H2)
    (hd : ∀ σ H, Pv ns σ H → D.nx σ H) : ForB (Itl K a) g t D σ H := by
  refine for_list (xs := ns.map V.int) (fun i => Pv (ns.take i)) (by simpa using h0) (fun i σ H _ p => hl _ σ H p) (fun i x σ H hx p => ?_) (fun σ H p => ?_)
  · obtain ⟨y, rfl, e1, e2⟩ := at_split hx
    rw [e2]
    exact hs _ y _ σ H e1 p
  · rw [List.length_map, List.take_length] at p
    exact hd σ H p
theorem for_intsT (Pv : List Int → L2.St → Hp → Prop) (h0 : Pv [] σ H) (hl : ∀ pre σ H, Pv pre σ H → SqT K H a (ns.map V.int))
    (hs : ∀ (pre : List Int) (x : Int) (post : List Int) σ H, ns = pre ++ x :: post → Pv pre σ H → g (.int x) σ H fun σ2 H2 => t { D with nx := Pv (pre ++ [x]), ct := Pv (pre ++ [x]), bk := D.nx } σ2 H2)
    (hd : ∀ σ H, Pv ns σ H → D.nx σ H) : ForB (Itt K a) g t D σ H := by
  refine for_tup (xs := ns.map V.int) (fun i => Pv (ns.take i)) (by simpa using h0) (fun i σ H _ p => hl _ σ H p) (fun i x σ H hx p => ?_) (fun σ H p => ?_)
  · obtain ⟨y, rfl, e1, e2⟩ := at_split hx
    rw [e2]
    exact hs _ y _ σ H e1 p
  · rw [List.length_map, List.take_length] at p
    exact hd σ H p
theorem walk_enumT {xs : List V} : Walk (IteT K a) xs.length (fun H => SqT K H a xs) (YPair (fun i => some (.int (i : Nat))) (fun i => xs[i]?)) := by
  refine ⟨fun i _ hi q => ⟨xs, xs[i], q, by simp [hi]⟩,
    fun _ q => ⟨xs, q, Nat.le_refl _⟩, fun i H v H' _ q y => ?_⟩
  obtain ⟨T, x, g1, g2, g3, g4⟩ := y
  exact ⟨T, .int (i : Nat), x, g1, g2, g3, rfl, g4 xs q⟩
theorem for_enumI (Pv : List Int → L2.St → Hp → Prop) (h0 : Pv [] σ H) (hl : ∀ pre σ H, Pv pre σ H → SqL K H a (ns.map V.int))
    (hs : ∀ (pre : List Int) (x : Int) (post : List Int) (T : Addr) σ H, ns = pre ++ x :: post → Pv pre σ H → H T = none → g (.ref T) σ (upd H T (.tup [.int (pre.length : Nat), .int x])) fun σ2 H2 => t { D with nx := Pv (pre ++ [x]), ct := Pv (pre ++ [x]), bk := D.nx } σ2 H2)
    (hd : ∀ σ H, Pv ns σ H → D.nx σ H) : ForB (Ite K a) g t D σ H := by
  refine for_it (walk_enum (xs := ns.map V.int)) (fun i => Pv (ns.take i)) (by simpa using h0) (fun i σ H _ p => hl _ σ H p) (fun i x σ H H' hi p y => ?_) (fun σ H p => ?_)
  · obtain ⟨T, u, v, rfl, hT, rfl, hu, hv⟩ := y
    obtain ⟨z, rfl, e1, e2⟩ := at_split hv
    cases (Option.some.inj hu)
    rw [e2]
    have hl : (ns.take i).length = i := by rw [List.length_map] at hi; rw [List.length_take]; omega
    have q := hs (ns.take i) z _ T σ H e1 p hT
    rw [hl] at q
    exact q
  · rw [List.length_map, List.take_length] at p
    exact hd σ H p
theorem for_enumIT (Pv : List Int → L2.St → Hp → Prop) (h0 : Pv [] σ H) (hl : ∀ pre σ H, Pv pre σ H → SqT K H a (ns.map V.int))
    (hs : ∀ (pre : List Int) (x : Int) (post : List Int) (T : Addr) σ H, ns = pre ++ x :: post → Pv pre σ H → H T = none → g (.ref T) σ (upd H T (.tup [.int (pre.length : Nat), .int x])) fun σ2 H2 => t { D with nx := Pv (pre ++ [x]), ct := Pv (pre ++ [x]), bk := D.nx } σ2 H2)
    (hd : ∀ σ H, Pv ns σ H → D.nx σ H) : ForB (IteT K a) g t D σ H := by
  refine for_it (walk_enumT (xs := ns.map V.int)) (fun i => Pv (ns.take i)) (by simpa using h0) (fun i σ H _ p => hl _ σ H p) (fun i x σ H H' hi p y => ?_) (fun σ H p => ?_)
  · obtain ⟨T, u, v, rfl, hT, rfl, hu, hv⟩ := y
    obtain ⟨z, rfl, e1, e2⟩ := at_split hv
    cases (Option.some.inj hu)
    rw [e2]
    have hl : (ns.take i).length = i := by rw [List.length_map] at hi; rw [List.length_take]; omega
    have q := hs (ns.take i) z _ T σ H e1 p hT
    rw [hl] at q
    exact q
  · rw [List.length_map, List.take_length] at p
    exact hd σ H p
/-- [e for k in range(a, b, c)], e a function of the turn -/
theorem lc_map_rngC {lo c : Int} {n : Nat} {H0 : Hp} (hD : H0 Da = none) (hn : n ≤ 1000000) (f : Nat → V)
    (hs : ∀ (i : Nat) (H2 : Hp) (C : VK) (E : Hp → Prop), i < n → Same H0 H2 → (∀ H3, Same H2 H3 → C (f i) H3) →
      g (.int (lo + (i : Nat) * c)) (wipe σ vs) H2 fun σ2 H2 => wipe σ2 vs = wipe σ vs ∧ tYes σ2 H2 fun b H3 => if b = true then te σ2 H3 C else E H3)
    (hd : ∀ (H : Hp), Same H0 H → H Da = some (.lst ((List.range n).map f)) → Q (.ref Da) H) : LcB (Itc lo c n) g tYes te vs σ Da H0 Q := by
  refine lc_it walk_rangeC (fun i H2 => Same H0 H2 ∧ H2 Da = some (.lst ((List.range i).map f))) ⟨same_new hD, upd_same⟩ (fun _ _ _ _ => trivial) (fun i x H2 H' hi p y => ?_) (fun H2 p => hd H2 p.1 p.2)
  obtain ⟨rfl, rfl⟩ := y
  obtain ⟨k4, e4⟩ := p
  refine hs i _ _ _ hi k4 fun H3 k5 => ?_
  refine ⟨_, k5 _ _ e4, Nat.lt_of_le_of_lt (by simp; omega : _ ≤ 1000000) (by decide), Same.mut (k4.trans k5) hD, ?_⟩
  rw [upd_same, List.range_succ, List.map_append]
  rfl
end
theorem i_bneself {b : Bool} {A B : Prop} (h : B) : if (b != b) = true then A else B := by
  have e : (b != b) = false := by cases b <;> rfl
  rw [e]; exact i_F h
theorem i_beself {b : Bool} {A B : Prop} (h : A) : if (b == b) = true then A else B := by
  rw [beq_self_eq_true]; exact i_T h
/-! ### a list or a tuple -/
/-- a row of values, a list's or a tuple's -/
abbrev SqE (K : PySem.W.Frag) (H : Hp) (p : Addr) (xs : List V) : Prop := SqL K H p xs ∨ SqT K H p xs
theorem Same.seqE {K : PySem.W.Frag} {H H' : Hp} {a : Addr} {xs : List V} (e : Same H H') (h : SqE K H a xs) : SqE K H' a xs := by
  rcases h with h | h
  · exact .inl (e.seq h)
  · refine .inr ?_
    rcases h with (h | ⟨c9, h⟩) | h
    · exact .inl (.inl (e _ _ h))
    · exact .inl (.inr ⟨c9, e _ _ h⟩)
    · exact .inr h
theorem e_ixE {K : PySem.W.Frag} {H : Hp} {Q : VK} {p : Addr} {xs : List V} {i : Int} {v : V} (h : SqE K H p xs) (ha : atI xs i = some v) (q : Q v H) : rIxL K (.ref p) (.int i) H Q ∨ rIxT K (.ref p) (.int i) H Q := by
  rcases h with h | h
  · exact .inl (e_ixL h ha q)
  · exact .inr (e_ixT h ha q)
/-- a list of the turn's values, over a list -/
theorem lc_map_lstI {K : PySem.W.Frag} {g : TG} {te : TE} {vs : List Nat} {σ : L2.St} {Da a : Addr} {H0 : Hp} {Q : VK} {xs : List V} (hS : SqL K H0 a xs) (hD : H0 Da = none) (hn : xs.length ≤ 1000000) (f : Nat → V)
    (hs : ∀ (i : Nat) (x : V) (H2 : Hp) (C : VK) (E : Hp → Prop), xs[i]? = some x → Same H0 H2 → (∀ H3, Same H2 H3 → C (f i) H3) →
      g x (wipe σ vs) H2 fun σ2 H2 => wipe σ2 vs = wipe σ vs ∧ tYes σ2 H2 fun b H3 => if b = true then te σ2 H3 C else E H3)
    (hd : ∀ (H : Hp), Same H0 H → H Da = some (.lst ((List.range xs.length).map f)) → Q (.ref Da) H) : LcB (Itl K a) g tYes te vs σ Da H0 Q := by
  refine lc_list (xs := xs) (fun i H2 => Same H0 H2 ∧ H2 Da = some (.lst ((List.range i).map f))) ⟨same_new hD, upd_same⟩ (fun i H2 _ p => p.1.seq hS) (fun i x H2 hx p => ?_) (fun H2 p => hd H2 p.1 p.2)
  obtain ⟨k4, e4⟩ := p
  have hi := (List.getElem?_eq_some_iff.mp hx).1
  refine hs i x H2 _ _ hx k4 fun H3 k5 => ?_
  refine ⟨_, k5 _ _ e4, Nat.lt_of_le_of_lt (by rw [List.length_map, List.length_range]; omega : _ ≤ 1000000) (by decide), Same.mut (k4.trans k5) hD, ?_⟩
  rw [upd_same, List.range_succ, List.map_append]
  rfl
end Vf

namespace Vf
open PySem L2 PySem.Spec PyProof.Rows
/-- a plain tuple of pairs: made by tuple(list), or by an update -/
def PlT (H : Hp) (a : Addr) (xs : List V) : Prop := ∃ o : Obj, o.dict = none ∧ H a = some (.frz o (.tup xs))
theorem PlT.seq {K : PySem.W.Frag} {H : Hp} {a : Addr} {xs : List V} (h : PlT H a xs) : SqT K H a xs := by
  obtain ⟨o, _, e⟩ := h
  exact .inl (.inr ⟨o, e⟩)
theorem PlT.same {H H' : Hp} {a : Addr} {xs : List V} (h : PlT H a xs) (e : Same H H') : PlT H' a xs := by
  obtain ⟨o, d, q⟩ := h
  exact ⟨o, d, e _ _ q⟩
theorem uvs_of {X : Cx} {pins : List (Addr × Obj)} {σ : L2.St} {H : Hp} {s : Shared} (I : Inv X pins σ H s) : ∀ {ps : List Addr} {kvs : List (Key × V)}, Paired (fun p kv => SqT X.K H p [kV kv.1, kv.2]) ps kvs →
    ∃ (prs : List (Key × Value)) (uvs : List (Value × Value)), KV kvs prs ∧ prs.length = ps.length ∧ uvs.length = ps.length ∧
      ∀ (j : Nat) (u y : Value), uvs[j]? = some (u, y) → ∃ (b : Addr) (k : Key), ps[j]? = some b ∧ PairAt s.heap b u y ∧ prs[j]? = some (k, y) ∧ keyIs k u = true
  | _, _, .nil => ⟨[], [], .nil, rfl, rfl, fun j u y e => by simp at e⟩
  | _, _, .cons (a := p) (b := kv) h t => by
    obtain ⟨prs, uvs, r, l1, l2, q⟩ := uvs_of I t
    obtain ⟨its, rv, ht, _⟩ := I.tuple h
    obtain ⟨u, y, rfl, ru, ry⟩ := vals2 rv
    refine ⟨(kv.1, y) :: prs, (u, y) :: uvs, .cons ⟨rfl, ry⟩ r, by simp [l1], by simp [l2], fun j u' y' e => ?_⟩
    cases j with
    | zero =>
      cases (Option.some.inj e)
      exact ⟨p, kv.1, rfl, .inl ht, rfl, kV_is (P := X.prog) (w := X.w) ru⟩
    | succ j =>
      obtain ⟨b, k, e1, e2, e3, e4⟩ := q j u' y' (by simpa using e)
      exact ⟨b, k, by simpa using e1, e2, by simpa using e3, e4⟩
theorem refs_of : ∀ {ps : List Addr} {us : List Value}, Vals (ps.map V.ref) us → us = ps.map Value.ref
  | [], _, .nil => rfl
  | p :: ps, _, .cons h t => by
    cases h
    rw [refs_of t]
    rfl
/-- dict(t), t a plain tuple of pairs -/
theorem call_dictPT {X : Cx} (hcalm : X.calm = true) : CallR X (.type "dict") (fun xs H Q => ∃ (a : Addr) (ps : List Addr) (kvs : List (Key × V)), xs = [.ref a] ∧ PlT H a (ps.map V.ref) ∧ Paired (fun p kv => SqT X.K H p [kV kv.1, kv.2]) ps kvs ∧
    ∀ p, H p = none → Q (.ref p) (upd H p (.dK (mergeK [] kvs)))) := by
  intro pins s σ H xs us Q I r q
  obtain ⟨a, ps, kvs, rfl, ⟨o, hd, ea⟩, hp, q⟩ := q
  obtain ⟨u, rfl, rx⟩ := vals1 r
  cases rx
  obtain ⟨ho, hz, its, rv, o2, ho2, hc, n, hdat⟩ := (show ObjOk X.prog X.w H s.heap a (.frz o (.tup (ps.map V.ref))) from I.hok a _ ea)
  rw [ho] at ho2
  cases (Option.some.inj ho2)
  have ei := refs_of rv
  subst ei
  rw [List.length_map] at hz
  obtain ⟨prs, uvs, rel, l1, l2, hq⟩ := uvs_of I hp
  have ok : PlainSeq "tuple" s.heap a (ps.map Value.ref).toArray ∧ PairItems s.heap (ps.map Value.ref).toArray (fun j => ps.getD j 0) uvs := by
    refine ⟨⟨o, n, ho, hc, hd, hdat⟩, by simp [l2], fun j k v hj => ?_⟩
    obtain ⟨b, key, e1, e2, _, _⟩ := hq j k v hj
    have e5 : ps.getD j 0 = b := by rw [List.getD_eq_getElem?_getD, e1]; rfl
    show _ ∧ PairAt s.heap (ps.getD j 0) k v
    rw [e5]
    exact ⟨by simp [e1], e2⟩
  refine PySem.call_dict_pairs (knd := mixKind X.prog X.w) (kvs := prs) (PairArg.tuple a (ps.map Value.ref).toArray (fun j => ps.getD j 0) uvs) (I.ok.hd hcalm) ok ⟨by rw [l1, l2], fun i key v hr => ?_⟩ (by rw [l2]; exact hz) fun h' tk hd' k => ?_
  · obtain ⟨b, k, _, _, e3, e4⟩ := hq i key v hr
    exact ⟨k, e3, e4⟩
  · have hm : (s.heap.objs.size == sysModules) = false := beq_eq_false_iff_ne.mpr (Nat.ne_of_gt I.big)
    have hlen : (mergeK [] kvs).length ≤ sizeLine := by
      have h1 := length_mergeK kvs []
      have h2 := rel.length
      rw [List.length_nil] at h1
      omega
    exact ⟨.ref s.heap.objs.size, upd H s.heap.objs.size (.dK (mergeK [] kvs)), I.laid (t' := tk) (fun b ob e => k b ob (by simp) e) (Nat.le_refl _) (show ObjOk X.prog X.w _ _ _ (.dK (mergeK [] kvs)) from ⟨hlen, hm, merged [] prs, KV.merge rel .nil, hd'⟩), rfl, q _ (I.hok.fresh (Nat.le_refl _))⟩
/-- tuple(l), l a list: a plain tuple -/
theorem call_tupleF {X : Cx} : CallR X (.type "tuple") (fun xs H Q => ∃ p ys, xs = [.ref p] ∧ SqL X.K H p ys ∧ ∀ l H', H l = none → Same H H' → PlT H' l ys → (∀ b, b ≠ l → H' b = H b) → Q (.ref l) H') := by
  intro pins s σ H xs us Q I r q
  obtain ⟨p, ys, rfl, hq, q⟩ := q
  obtain ⟨u, rfl, rx⟩ := vals1 r
  cases rx
  obtain ⟨its, rv, pl, hz⟩ := I.list hq
  have hlen := rv.length
  refine call_tuple_list pl.isList (fun h' kp => ?_) (by simp only [List.size_toArray] <;> omega)
  have J1 : Inv X pins σ H { s with heap := h' } := I.kept (t' := s.toks) kp
  have hfr := J1.hok.fresh (Nat.le_refl _)
  have J2 : Inv X pins σ (upd H h'.objs.size (.frz { cls := .type "tuple", data := .seq its.toArray } (.tup ys))) { s with heap := h'.push { cls := .type "tuple", data := .seq its.toArray } } :=
    J1.laid (t' := s.toks) (fun b ob e => Heap.get?_push_of_some _ e) (Nat.le_refl _) ⟨Heap.get?_push_size _ rfl, hz, its, rv, IsTup.new _ _⟩
  exact ⟨.ref h'.objs.size, _, J2, rfl, q _ _ hfr (same_new hfr) ⟨_, rfl, upd_same⟩ fun b hb => upd_ne hb⟩
theorem tupFK (K : PySem.W.Frag) {X : Cx} (hK : X.K = K := by rfl) : CallR X (.type "tuple") (fun xs H Q => ∃ p ys, xs = [.ref p] ∧ SqL K H p ys ∧ ∀ l H', H l = none → Same H H' → PlT H' l ys → (∀ b, b ≠ l → H' b = H b) → Q (.ref l) H') := hK ▸ call_tupleF
end Vf

namespace PySem
namespace ErrX
open PySem.W PySem.Calls PyProof.Rows PySem.HandSPX
/-! ### the text of __init__ -/
def iA (p1 p2 : Pos) : Arguments := { posonlyargs := [], args := [{ arg := "self", annotation := none, pos := p1 }, { arg := "place", annotation := none, pos := p2 }], vararg := none, kwonlyargs := [], kw_defaults := [], kwarg := none, defaults := [] }
def iB (q1 q2 q3 q4 : Pos) : List Stmt := [.Assign [.Attribute (.Name "self" q1) "place" q2] (.Name "place" q3) q4]
def iS : Scope := { kind := .function, names := [(PySem.Str.ofString "self", .local), (PySem.Str.ofString "place", .local)], isGenerator := false, isCoroutine := false, more := [] }
/-- what the written part says of Low, at C, and of its __init__, at fI -/
structure ErrTxt (K : Frag) (mg : Str → Option Value) (x : Str) (C fI : Addr) : Prop where
  gC : mg x = some (.ref C)
  cls : ∃ nm q N bs bm sn sub ab col dd k0 k1 k2 k3 k5, K.lookup C = some (excClassObj nm q C N bs bm true sn sub ab col dd k0 k1 k2 k3 k5 "ValueError.__new__") ∧ refsVE bm = true
  sa : findIn K (.ref C) "__setattr__" = some (some (.builtin "object.__setattr__"))
  ga : findIn K (.ref C) "__getattribute__" = some (some (.builtin "BaseException.__getattribute__"))
  gg : findIn K (.ref C) "__getattr__" = some none
  noN : findIn K (.ref C) "place" = some none
  iC : findIn K (.ref C) "__init__" = some (some (.ref fI))
  tC : typeIn K (.ref fI) = some (.type "function")
  kC : keepIn K (.ref C) = true
  exC : subIn K (.ref C) (.type "BaseException") = some true
  tyC : typeIn K (.ref C) = some (.type "type")
  hdC : hasDictIn K C = true
  te : exmOne K (.ref C) (.ref C) = some true
  fn : ∃ (oc : Value) (od : Option Addr) (kV doc pm : Value) (an : Option Addr) (cdv ct : Value) (osl : Array (Option Value)) (p1 p2 q1 q2 q3 q4 : Pos),
    K.lookup fI = some ⟨oc, od, .func (fnOf "__init__" "FolderkinError.__init__" (iA p1 p2) (iB q1 q2 q3 q4) iS .none kV doc pm an cdv ct), osl⟩ ∧ codeIn K cdv "FolderkinError.__init__" = true
theorem one_size (v : Value) : [v].length ≤ sizeLine := by
  rw [sizeLine_eq]
  exact (by decide : 1 ≤ 16777216)
theorem kept_but {K : Frag} {h h' : Heap} {x : Addr} (X : K.In h) (hx : K.lookup x = none) (k : ∀ b o, b ≠ x → h.get? b = some o → h'.get? b = some o) : K.In h' := fun a o e =>
  k a o (fun z => by rw [z, hx] at e; cases e) (X a o e)
theorem ldC {M : Model} {s : Shared} {name : Str} {scope : Scope} {L a : Addr} {cd : Value} {m : Str → Option Value} {x : Str} {pos : Pos} {v : Value} {Q : Value → Shared → Prop} {A : Around} {E : Value → Shared → Prop} (hn : s.heap.Ns L m) (hv : m x = some v) (h : Q v s)
    (hk : scope.kind = .function := by rfl) (hl : (envOfC name scope L a cd).kindOf x = some .local := by rfl) (hd : (x == ("__debug__" : Str)) = false := by decide) :
    wpAny M A (eval (.Name x pos) (envOfC name scope L a cd)) Q E s := wpAny_Name (wpAny_loadName_local hk hl hn hv h) hd
/-- what __init__ leaves of a fresh exception at x -/
structure InitEnd (h h' : Heap) (x C dx t1 : Addr) (v : Value) : Prop where
  keep : ∀ b o, b ≠ x → h.get? b = some o → h'.get? b = some o
  obj : h'.get? x = some { cls := .ref C, dict := some dx, data := .fields #[.ref t1, .none, .none, .none, .bool false, .none] }
  dbig : h.objs.size ≤ dx
  dne : dx ≠ x
  ns : h'.Ns1 dx (fun y => if y = "place" then some v else none)
/-- a made Low -/
structure OwnMade (h h' : Heap) (e C d : Addr) (v : Value) : Prop where
  keep : ∀ b o, h.get? b = some o → h'.get? b = some o
  new : h.objs.size ≤ e
  obj : ∃ oe vs, h'.get? e = some oe ∧ oe.cls = .ref C ∧ oe.dict = some d ∧ oe.data = .fields vs ∧ vs[1]? = some .none
  dbig : h.objs.size ≤ d
  dne : d ≠ e
  ns : h'.Ns1 d (fun y => if y = "place" then some v else none)
section
variable {prog : Program} {w : World} {A : Around} {E : Value → Shared → Prop} {R : Result → Shared → Prop} {s : Shared} {K : Frag} {mg : Str → Option Value} {C fI : Addr}
theorem err_init (T : ErrTxt K mg nmx C fI) {x t0 : Addr} {v : Value} (X : K.In s.heap) (hlim : s.heap.NoLimit) (hx : s.heap.get? x = some (excO C t0)) (hnx : K.lookup x = none) (hroom : A.depth < recursionLimit)
    (hq : ∀ h' tk dx, InitEnd s.heap h' x C dx t0 v → R (.ok (.ret .none)) { s with heap := h', toks := tk }) :
    codeAny (model prog w) A (.call (.ref fI) ⟨[.ref x, v], []⟩) R s := by
  obtain ⟨oc, od, kV, doc, pm, an, cdv, ct, osl, p1, p2, q1, q2, q3, q4, ho, hcd⟩ := T.fn
  obtain ⟨nm, q, N, bs, bm, sn, sub, ab, col, dd, k0, k1, k2, k3, k5, hC, hbm⟩ := T.cls
  have hcl : clsIn K C = some { name := nm, bases := bs, mro := .ref C :: bm, ns := N, qualname := q, hasDict := true, slotNames := sn, subclasses := sub, abstract := ab, collection := col, hasDel := false } := by unfold clsIn; rw [hC] <;> rfl
  refine Att.call_fn (binds := [("self", .ref x), ("place", v)]) X hlim ho hcd hroom (BindsTo.of_eq (by first | rfl | with_unfolding_all rfl)) (by first | rfl | decide | with_unfolding_all rfl) (fun s₁ IC => ?_) rfl rfl rfl
  obtain ⟨h₁, tk₁, rfl⟩ := IC.toInCall.same
  have k : ∀ b o, s.heap.get? b = some o → h₁.get? b = some o := IC.toInCall.keep
  have hn := IC.toInCall.ns
  have hxL : s.heap.objs.size ≠ x := Nat.ne_of_gt (Heap.lt_size hx)
  have X₁ : K.In h₁ := X.keeps k
  have hx₁ := k _ _ hx
  -- self.by = by
  show wpAny _ _ (execs _ _) _ _ _
  refine wpAny_execs_cons (plainObj_wpAny_Assign_Attribute ?_)
  refine ldC (v := v) hn (by first | rfl | with_unfolding_all rfl | kernel_rfl) (ldC (v := .ref x) hn (by first | rfl | with_unfolding_all rfl | kernel_rfl) ?_)
  refine set_plain X₁ (ox := excO C t0) (od := none) ⟨hx₁, rfl, rfl, trivial⟩ T.sa ?_
  refine exc_osa X₁ hx₁ hcl (show refsVE (.ref C :: bm) = true from hbm) rfl T.noN (fun h₃ tk₃ dx k₃ dn dne hx₃ hn₃ => ?_)
  show wpAny _ _ (execs _ _) _ _ _
  have z : s.heap.objs.size < h₁.objs.size := hn.lt
  exact wpAny_execs_nil (hq h₃ tk₃ dx ⟨fun b o hb e => k₃ b o hb (k b o e), hx₃, Nat.le_of_lt (Nat.lt_of_lt_of_le z dn), dne, hn₃⟩)
theorem err_made (T : ErrTxt K mg nmx C fI) {v : Value} (X : K.In s.heap) (hlim : s.heap.NoLimit) (hroom : A.depth + 1 < recursionLimit)
    (hq : ∀ h' tk e d, OwnMade s.heap h' e C d v → R (.ok (.ret (.ref e))) { s with heap := h', toks := tk }) :
    codeAny (model prog w) A (.call (.ref C) ⟨[v], []⟩) R s := by
  obtain ⟨nm, q, N, bs, bm, sn, sub, ab, col, dd, k0, k1, k2, k3, k5, hC, hbm⟩ := T.cls
  obtain ⟨hp, g, dr, tk, os⟩ := s
  have k : ∀ b o, hp.get? b = some o → ((hp.push (kdv_tup [v])).push (excO C hp.objs.size)).get? b = some o := fun b o e => Heap.get?_push_of_some _ (Heap.get?_push_of_some _ e)
  have hget : ((hp.push (kdv_tup [v])).push (excO C hp.objs.size)).get? (hp.objs.size + 1) = some (excO C hp.objs.size) := by heap_get
  have hnx : K.lookup (hp.objs.size + 1) = none := by
    cases e : K.lookup (hp.objs.size + 1) with
    | none => rfl
    | some o =>
      have z : hp.get? (hp.objs.size + 1) = some o := X _ _ e
      exact absurd (Nat.lt_of_succ_lt (Heap.lt_size z)) (Nat.lt_irrefl _)
  refine call_own F.excBase_ValueError (fun X => refsVE_contains X bm hbm) (X _ _ hC) (looks_findIn X T.iC) (fun self => bind_fn X self T.tC) (one_size v) ?_
  refine err_init (s := ⟨(hp.push (kdv_tup [v])).push (excO C hp.objs.size), g, dr, tk, os⟩) T (X.keeps k) (hlim.keeps k) hget hnx ?_ fun h' tk' dx ⟨k', hx, dn, dne, hns⟩ => ?_
  · show A.depth + 1 < recursionLimit
    exact hroom
  · have old : ∀ b o, hp.get? b = some o → h'.get? b = some o := fun b o e => k' b o (Nat.ne_of_lt (Nat.lt_succ_of_lt (Heap.lt_size e))) (k b o e)
    have z : hp.objs.size + 1 + 1 ≤ dx := by
      first
        | (simpa only [Heap.size_push] using dn)
        | exact dn
        | (have q := dn; rw [Heap.size_push, Heap.size_push] at q; exact q)
    exact ⟨rfl, hq h' tk' (hp.objs.size + 1) dx ⟨old, Nat.le_succ _, ⟨_, _, hx, rfl, rfl, rfl, rfl⟩, Nat.le_trans (Nat.le_trans (Nat.le_succ _) (Nat.le_succ _)) z, dne, hns⟩⟩
end
end ErrX
end PySem
namespace L2
open PySem PySem.Spec PyProof.Rows
theorem relO_plc {v : V} {v' : Value} (r : RelV v v') (f : Str) : RelO (List.lookup f [(("place" : Str), v)]) (if f = "place" then some v' else none) := by
  by_cases hw : f = "place"
  · subst hw
    rw [if_pos rfl]
    have q : List.lookup ("place" : Str) [(("place" : Str), v)] = some v := by simp [List.lookup]
    rw [q]
    exact r
  · rw [if_neg hw]
    have qw : (f == ("place" : Str)) = false := by simpa using hw
    have q2 : List.lookup f [(("place" : Str), v)] = none := by simp [List.lookup, qw]
    rw [q2]
    trivial
section
variable {X : Cx} {C fI : Addr}
/-- Low(e) -/
def tMkErr (C : Addr) (ta : TA) : St → Hp → XK → Prop := fun σ H Q => ta σ H fun vs H1 => ∃ v, vs = [v] ∧ ∀ d, H1 d = none → Q (.ref C) (some d) (upd H1 d (.xd [(("place" : Str), v)]))
theorem pmk_err {a : Expr} {ta : TA} {p pos : Pos} {k : Nat} (T : PySem.ErrX.ErrTxt X.K X.mg nmx C fI) (hr : Room k X.A) (ha : PA X [a] ta) (hg : Gl X nmx := by rfl)
    (he : starEach (a :: []) X.env = (false, eval a X.env) :: starEach [] X.env := by rfl) (hpl : (backTo pos (starEach [] X.env)).any (·.1) = false := by rfl) (hdb : (nmx == ("__debug__" : Str)) = false := by decide) :
    PMk X (.Call (.Name nmx p) [a] [] pos) (tMkErr C ta) := by
  intro pins s σ H Q I h
  refine wpAny_Call_Name_kw (ld_glob I hg T.gC ?_ hdb)
  refine PySem.W.callWith_K (h₀ := X.base) I.ok.mod.kin T.kC (thn (ha.run pos pins s σ H _ I h) fun us s1 hh => ?_) he hpl
  obtain ⟨vs, H1, I1, r1, v, ev, q1⟩ := hh
  subst ev
  refine ⟨I1.kIn, ?_⟩
  cases r1 with
  | cons rv rn =>
    rename_i v' us'
    cases rn
    show wpAny _ _ (call (.ref C) [v']) _ _ _
    have hlim := I1.nolimit
    obtain ⟨hp, g, dr, tk, os⟩ := s1
    refine wpAny_call (PySem.ErrX.err_made T I1.kIn hlim (by have := hr.dp; omega) fun h' tk' e d M => ?_)
    show MkP X pins σ Q (.ref e) ⟨h', g, dr, tk', os⟩
    obtain ⟨oe, fv, hoe, hc, hd, hdat, h1⟩ := M.obj
    have hns := M.ns
    obtain ⟨G', g1, g2⟩ := restrict h' fun b => decide (b ≠ e)
    have gk : ∀ b, b ≠ e → G'.get? b = h'.get? b := fun b hb => g1 b (decide_eq_true hb)
    have ge : G'.get? e = none := g2 e (by simp)
    have old : ∀ b o, hp.get? b = some o → G'.get? b = some o := fun b o q => (gk b (Nat.ne_of_lt (Nat.lt_of_lt_of_le (Heap.lt_size q) M.new))).trans (M.keep b o q)
    have ob : ObjOk X.prog X.w (upd H1 d (.xd [(("place" : Str), v)])) G' d (.xd [(("place" : Str), v)]) :=
      ⟨_, hns.at (fun o q => (gk d M.dne).trans q), fun f => relO_plc rv f⟩
    have J : Inv X pins σ (upd H1 d (.xd [(("place" : Str), v)])) ⟨G', g, dr, tk', os⟩ := I1.laid (t' := tk') old M.dbig ob
    refine ⟨e, oe, fv, ⟨G', g, dr, tk', os⟩, _, .ref C, some d, rfl, J, fun b o q => ?_, ge, hoe, ⟨hc, hd⟩, hdat, h1, ?_, rfl, I1.bare, raises_own T.exC T.tyC, q1 d (I1.hok.fresh M.dbig)⟩
    · by_cases hb : b = e
      · have q' : G'.get? b = some o := q
        rw [hb, ge] at q'; cases q'
      · exact (gk b hb).symm.trans q
    · rw [upd_ne (Ne.symm M.dne)]
      exact I1.hok.fresh M.new
/-- raise Low(e) -/
def tRaiseErr (C : Addr) (W : WX) (ta : TA) : TS := fun _ σ H => tMkErr C ta σ H fun cls d H' => W cls d σ H'
theorem ps_raiseErr {a : Expr} {ta : TA} {W : WX} {p pos pos2 : Pos} {k : Nat} (hc : X.calm = true) (T : PySem.ErrX.ErrTxt X.K X.mg nmx C fI) (hr : Room k X.A) (tk : Takes X W) (ha : PA X [a] ta) (hg : Gl X nmx := by rfl)
    (he : starEach (a :: []) X.env = (false, eval a X.env) :: starEach [] X.env := by rfl) (hpl : (backTo pos (starEach [] X.env)).any (·.1) = false := by rfl) (hdb : (nmx == ("__debug__" : Str)) = false := by decide) :
    PS X (.Raise (some (.Call (.Name nmx p) [a] [] pos)) none pos2) (tRaiseErr C W ta) := ps_raise hc tk (pmk_err T hr ha hg he hpl hdb)
/-- low.by, low the exception that the suite holds (at a; its class cls, its dict d) -/
def tPlcErr (C : Addr) (a : Addr) (cls : Value) (d : Option Addr) (te : TE) : TE := fun σ H Q => te σ H fun x H1 => x = .ref a ∧ cls = .ref C ∧ ∃ (dd : Addr) (v : V), d = some dd ∧ H1 dd = some (.xd [(("place" : Str), v)]) ∧ Q v H1
theorem pe_plcErr {a : Addr} {oe : Obj} {cls : Value} {d : Option Addr} {pn : List (Addr × Obj)} {e : Expr} {te : TE} {pos : Pos} (T : PySem.ErrX.ErrTxt X.K X.mg nmx C fI) (hz : Zc cls d oe) (hf : ∃ vs, oe.data = .fields vs) (he : PE (X.suite a ((a, oe) :: pn)) e te)
    (hb : attributeBase e "place" X.env (eval e X.env) = eval e X.env := by rfl) :
    PE (X.suite a ((a, oe) :: pn)) (.Attribute e "place" pos) (tPlcErr C a cls d te) := by
  refine ⟨fun pins s σ H Q I h => ?_⟩
  refine attr_of hb (thn (he.run pins s σ H _ I h) fun u s1 hh => ?_)
  obtain ⟨x, H1, I1, rx, ex, ec, dd, v, ed, ea, q⟩ := hh
  subst ex
  obtain rfl : u = Value.ref a := rx
  subst ec
  subst ed
  obtain ⟨ha, _⟩ := I1.pin (a, oe) (List.mem_append_left _ List.mem_cons_self)
  obtain ⟨vs, hd⟩ := hf
  have hx : ObjOk X.prog X.w H1 s1.heap dd (.xd [(("place" : Str), v)]) := I1.hok dd _ ea
  obtain ⟨mA, hns, hr⟩ := hx
  obtain ⟨od, ho, hl⟩ := lookIn_ns hns
  have l : List.lookup ("place" : Str) [(("place" : Str), v)] = some v := by simp [List.lookup]
  obtain ⟨u, hu, ru⟩ := RelO.some_of (v := v) (o := mA "place") (by rw [← l]; exact hr "place")
  have J : PySem.W.InstAt s1.heap a oe C (some od) := ⟨ha, hz.1, by unfold PySem.W.notCls; rw [hd] <;> rfl, by rw [hz.2]; exact ho⟩
  exact HandSPX.exc_get I1.kIn J T.ga T.gg T.exC (PySem.W.findObj_own T.hdC T.noN rfl (by rw [hl, hu])) (handed_of ru) ⟨v, H1, I1.tok _, ru, q⟩
end
end L2

namespace Vf
open PySem L2 PySem.Spec PyProof.Rows
/-- isinstance(e, c), e the error that the suite holds (at a; its class cls, its own dict d) -/
def rIsP (K : PySem.W.Frag) (D a : Addr) (cls : Value) (d : Option Addr) : List V → Hp → VK → Prop := fun xs H Q => cls = .ref D ∧ ∃ (dd : Addr) (pl c : V) (cv : Value) (b : Bool),
  d = some dd ∧ H dd = some (.xd [(("place" : Str), pl)]) ∧ xs = [.ref a, c] ∧ (∀ u, RelV c u → u = cv) ∧ PySem.W.kitOne K (.ref D) cv = some b ∧ Q (.bl b) H
theorem call_isP {X : Cx} {a D : Addr} {oe : Obj} {cls : Value} {d : Option Addr} {pn : List (Addr × Obj)} (C : ExcC X.K D) (hz : Zc cls d oe) (hf : ∃ vs, oe.data = .fields vs) : CallR (X.suite a ((a, oe) :: pn)) (.builtin "isinstance") (rIsP X.K D a cls d) := by
  intro pins s σ H xs us Q I r h
  obtain ⟨rfl, dd, pl, c, cv, b, rfl, ea, rfl, hcv, e, q⟩ := h
  obtain ⟨u1, u2, rfl, r1, r2⟩ := vals2 r
  cases (show u1 = Value.ref a from r1)
  have e2 := hcv _ r2
  subst e2
  obtain ⟨ha, _⟩ := I.pin (a, oe) (List.mem_append_left _ List.mem_cons_self)
  obtain ⟨vs, hd⟩ := hf
  obtain ⟨mA, hns, _⟩ := (show ObjOk X.prog X.w H s.heap dd (.xd [(("place" : Str), pl)]) from I.hok dd _ ea)
  obtain ⟨od, ho, _⟩ := lookIn_ns hns
  have J : PySem.W.InstAt s.heap a oe D (some od) := ⟨ha, hz.1, by unfold PySem.W.notCls; rw [hd] <;> rfl, by rw [hz.2]; exact ho⟩
  have hcl : (PySem.W.clsIn X.K D).isSome = true := by
    have h1 := C.hd
    unfold PySem.W.hasDictIn at h1
    cases h2 : PySem.W.clsIn X.K D with
    | none => rw [h2] at h1; cases h1
    | some cd => rfl
  exact PySem.W.kia_one (PySem.W.kitx_exc hcl C.hg C.hk C.hs C.ha C.hn C.ht C.hm) I.kIn J e (fun z => nomatch z) fun tk => ⟨.bl b, H, I.kept (t' := tk) fun _ _ z => z, rfl, q⟩
end Vf

namespace Vf
open PySem L2 PySem.Spec PyProof.Rows He
/-! ### the head's facts, and further ones that are yes or no -/
abbrev AlX : Type := AlD × Bool
def obsX (fa : List Fa) (fn : List DefD) (ex : List (PySem.W.Frag → Bool)) (K : PySem.W.Frag) : AlX := (obsD fa fn K, ex.all fun p => p K)
def obsXG (n : Nat) (fa : List Fa) (fn : List DefD) (ex : List (PySem.W.Frag → Bool)) (g : Addr → Option Obj) : AlX := obsX fa fn ex (frG g (asD g n))
def SaysX (fa : List Fa) (fn : List DefD) (ex : List (PySem.W.Frag → Bool)) (K : PySem.W.Frag) : Prop := SaysD fa fn K ∧ (ex.all fun p => p K) = true
def hookX (n : Nat) (fa : List Fa) (fn : List DefD) (ex : List (PySem.W.Frag → Bool)) : PySem.W.Hook where
  α := AlX
  obs := fun s => obsXG n fa fn ex s.heap.get?
  val := fun _ => (valD fn, true)
  says := fun _ h => ∃ K : PySem.W.Frag, K.In h ∧ SaysX fa fn ex K
  of := fun _ _ e => ⟨_, frG_in, congrArg (fun z : AlX => z.1) e, congrArg (fun z : AlX => z.2) e⟩
  keeps := fun _ _ _ ⟨K, hK, c⟩ k => ⟨K, PySem.W.Frag.In.keeps hK k, c⟩
theorem obsXG_eq {n : Nat} {fa : List Fa} {fn : List DefD} {ex : List (PySem.W.Frag → Bool)} {g : Addr → Option Obj} {s : Shared} (h : ∀ a, g a = s.heap.get? a) : obsXG n fa fn ex g = (hookX n fa fn ex).obs s := by
  have e : g = s.heap.get? := funext h
  rw [e] <;> rfl
theorem SaysX.more {fa : List Fa} {fn : List DefD} {ex : List (PySem.W.Frag → Bool)} {K : PySem.W.Frag} (c : SaysX fa fn ex K) (i : Nat) {p : PySem.W.Frag → Bool} (h : ex[i]? = some p := by rfl) : p K = true :=
  List.all_eq_true.mp c.2 p (List.mem_of_getElem? h)
/-! ### an own error, over ValueError through own classes, with __init__ from one of them -/
def errB (K : PySem.W.Frag) (C : Addr) : Bool := match K.lookup C with
  | some ⟨.type "type", _, .cls cd, sl⟩ => (match cd.mro, sl.toList with
    | .ref D :: bm, [_, _, _, _, some (.builtin n), _] => D == C && (n == "ValueError.__new__" && (!cd.hasDel && (cd.hasDict && PySem.HandSPX.refsVE bm)))
    | _, _ => false)
  | _ => false
theorem errB_ok {K : PySem.W.Frag} {C : Addr} (q : errB K C = true) : ∃ nm qn N bs bm sn sub ab col dd k0 k1 k2 k3 k5, K.lookup C = some (excClassObj nm qn C N bs bm true sn sub ab col dd k0 k1 k2 k3 k5 "ValueError.__new__") ∧ PySem.HandSPX.refsVE bm = true := by
  unfold errB at q
  split at q
  · rename_i dd cd sl ho
    split at q
    · rename_i D bm k0 k1 k2 k3 n k5 hm hs
      simp only [Bool.and_eq_true, beq_iff_eq, Bool.not_eq_true'] at q
      obtain ⟨rfl, rfl, hdel, hdi, hv⟩ := q
      obtain ⟨nm, bs, mro, ns, qn, hd, sn, sub, ab, col, del⟩ := cd
      dsimp only at hm hdel hdi
      subst hm hdel hdi
      obtain ⟨l⟩ := sl
      simp only at hs
      subst hs
      exact ⟨nm, qn, ns, bs, bm, sn, sub, ab, col, dd, k0, k1, k2, k3, k5, ho, hv⟩
    · cases q
  · cases q
def errAll (x bx : Str) (K : PySem.W.Frag) : Bool :=
  errB K (ga K x) && (eqO (PySem.W.findIn K (.ref (ga K x)) "__setattr__") (some (some (.builtin "object.__setattr__"))) && (eqO (PySem.W.findIn K (.ref (ga K x)) "__getattribute__") (some (some (.builtin "BaseException.__getattribute__"))) &&
  (eqO (PySem.W.findIn K (.ref (ga K x)) "__getattr__") (some none) && (eqO (PySem.W.findIn K (.ref (ga K x)) "place") (some none) && (eqO (PySem.W.findIn K (.ref (ga K x)) "__init__") (some (some (.ref (ma K (ga K bx) "__init__")))) &&
  (decide (PySem.W.typeIn K (.ref (ma K (ga K bx) "__init__")) = some (.type "function")) && (PySem.W.keepIn K (.ref (ga K x)) && (decide (PySem.W.subIn K (.ref (ga K x)) (.type "BaseException") = some true) && (decide (PySem.W.typeIn K (.ref (ga K x)) = some (.type "type")) &&
  (PySem.W.hasDictIn K (ga K x) && (decide (PySem.W.exmOne K (.ref (ga K x)) (.ref (ga K x)) = some true) && (decide (PySem.W.exmOne K (.ref (ga K x)) (.ref (ga K bx)) = some true) && (eqO (PySem.W.findIn K (.ref (ga K x)) "__class__") (some (some (.builtin "object.__class__"))) &&
  (eqO (PySem.W.specialIn K (.builtin "object.__class__") "__get__") (some (some (.builtin "getset_descriptor.__get__"))) && (decide (PySem.W.takesIn K (.builtin "object.__class__") = some true) && (decide (PySem.W.mroIn K (ga K x) (.type "object") = some true) &&
  (decide (PySem.W.kitOne K (.ref (ga K x)) (.ref (ga K x)) = some true) && (decide (PySem.W.kitOne K (.ref (ga K x)) (.ref (ga K bx)) = some true) && decide (PySem.W.kitOne K (.ref (ga K x)) (.type "ValueError") = some true)))))))))))))))))))
structure ErrAll (K : PySem.W.Frag) (mg : Str → Option Value) (x bx : Str) : Prop where
  er : PySem.ErrX.ErrTxt K mg x (ga K x) (ma K (ga K bx) "__init__")
  gB : mg bx = some (.ref (ga K bx))
  ec : ExcC K (ga K x)
  xb : PySem.W.exmOne K (.ref (ga K x)) (.ref (ga K bx)) = some true
  ii : PySem.W.kitOne K (.ref (ga K x)) (.ref (ga K x)) = some true
  ib : PySem.W.kitOne K (.ref (ga K x)) (.ref (ga K bx)) = some true
  iv : PySem.W.kitOne K (.ref (ga K x)) (.type "ValueError") = some true
theorem errAll_ok {K : PySem.W.Frag} {h : Heap} {mg : Str → Option Value} {x bx : Str} {fd : FuncData} {p1 p2 q1 q2 q3 q4 : Pos} (X : K.In h) (G : h.Ns mainGlobals mg) (c1 : (Fa.glo x).ok K = true) (c2 : (Fa.glo bx).ok K = true) (ce : errAll x bx K = true)
    (F : FunD K "__init__" "FolderkinError.__init__" (PySem.ErrX.iA p1 p2) (PySem.ErrX.iB q1 q2 q3 q4) PySem.ErrX.iS [] [] (ma K (ga K bx) "__init__") fd) : ErrAll K mg x bx := by
  obtain ⟨e1, ce⟩ := ba ce
  obtain ⟨e2, ce⟩ := ba ce
  obtain ⟨e3, ce⟩ := ba ce
  obtain ⟨e4, ce⟩ := ba ce
  obtain ⟨e5, ce⟩ := ba ce
  obtain ⟨e6, ce⟩ := ba ce
  obtain ⟨e7, ce⟩ := ba ce
  obtain ⟨e8, ce⟩ := ba ce
  obtain ⟨e9, ce⟩ := ba ce
  obtain ⟨e10, ce⟩ := ba ce
  obtain ⟨e11, ce⟩ := ba ce
  obtain ⟨e12, ce⟩ := ba ce
  obtain ⟨e13, ce⟩ := ba ce
  obtain ⟨e14, ce⟩ := ba ce
  obtain ⟨e15, ce⟩ := ba ce
  obtain ⟨e16, ce⟩ := ba ce
  obtain ⟨e17, ce⟩ := ba ce
  obtain ⟨e18, ce⟩ := ba ce
  obtain ⟨e19, e20⟩ := ba ce
  obtain ⟨oc, od, dV, kV, doc, pm, an, cdv, ct, osl, rfl, lk, hcd, dfl, _⟩ := F.ex
  have ed : dV = .none := by
    rcases dfl with ⟨_, h⟩ | ⟨h, _⟩
    · exact h
    · exact absurd rfl h
  subst ed
  exact { er := { gC := glo_ok X G c1, cls := errB_ok e1, sa := eqO_ok e2, ga := eqO_ok e3, gg := eqO_ok e4, noN := eqO_ok e5, iC := eqO_ok e6, tC := of_decide_eq_true e7, kC := e8, exC := of_decide_eq_true e9, tyC := of_decide_eq_true e10, hdC := e11, te := of_decide_eq_true e12,
                  fn := ⟨oc, od, kV, doc, pm, an, cdv, ct, osl, p1, p2, q1, q2, q3, q4, lk, hcd⟩ },
          gB := glo_ok X G c2, ec := ⟨eqO_ok e3, eqO_ok e4, of_decide_eq_true e9, e11, eqO_ok e14, eqO_ok e15, of_decide_eq_true e16, of_decide_eq_true e17⟩,
          xb := of_decide_eq_true e13, ii := of_decide_eq_true e18, ib := of_decide_eq_true e19, iv := of_decide_eq_true e20 }
/-! ### calls of a def that may raise -/
structure CalX (P : Program) (w : World) (K : PySem.W.Frag) (mg : Str → Option Value) (base : Heap) (k : Nat) (x : Str) (sp : Sp) : Prop where
  ex : ∃ (f : Addr) (fd : FuncData) (ps : List Str), FnOk P w K mg base (L2.CX P w) k f fd ps sp ∧ mg x = some (.ref f) ∧ PySem.W.keepIn K (.ref f) = true ∧ Binds K fd ps []
theorem pe_cX {X : Cx} {k j : Nat} {x : Str} {sp : Sp} {p pos : Pos} {e : Expr} {es : List Expr} {t : TA} {W : WX} (c : CalX X.prog X.w X.K X.mg X.base k x sp) (hr : Room j X.A) (hk : k ≤ j) (tk : Takes X W) (hg : Gl X x) (ha : PA X (e :: es) t)
    (hdb : (x == ("__debug__" : Str)) = false := by decide) (he : starEach (e :: es) X.env = (false, eval e X.env) :: starEach es X.env := by rfl)
    (hpl : (backTo pos (starEach es X.env)).any (·.1) = false := by rfl) : PE X (.Call (.Name x p) (e :: es) [] pos) (tCallS sp (WE W) t) := by
  obtain ⟨f, fd, ps, F, hm, kp, b⟩ := c.ex
  exact pe_callS F (hr.mono hk) hg hm kp b (fun σ => passAt tk σ) ha hdb he hpl
/-- promises of a def that may raise, by arity -/
abbrev sp1X (R : V → Hp → VK → XK → Prop) : Sp := fun vs H Q E => ∃ a, vs = [a] ∧ R a H Q E
end Vf

namespace Vf
open PySem L2 PySem.Spec PyProof.Rows
/-- x == y, x an instance of a class with its own __eq__ that answers True or False; y one too, or a tuple -/
def rEqO (K : PySem.W.Frag) (C : Addr) (sp : Sp) (E : XK) : R2 := fun x y H Q => ∃ (a b dx : Addr) (fs : List (Str × V)), x = .ref a ∧ y = .ref b ∧ H a = some (.ins C dx fs) ∧
  ((∃ (dy : Addr) (gs : List (Str × V)), H b = some (.ins C dy gs)) ∨ (PySem.W.notFirst K C (.type "tuple") = true ∧ ∃ ys, SqT K H b ys)) ∧ sp [x, y] H (fun z H' => ∃ t, z = .bl t ∧ Q z H') E
theorem op_eqOwn {X : Cx} {CX : CXT} {C f : Addr} {fd : FuncData} {ps : List Str} {sp : Sp} {E : XK} {n : Nat} (F : FnOk X.prog X.w X.K X.mg X.base CX n f fd ps sp)
    (hs : PySem.W.findIn X.K (.ref C) "__eq__" = some (some (.ref f))) (hf : PySem.W.isFn X.K (.ref f) = true) (hb : Binds X.K fd ps []) (hx : Passes CX X E) (hr : Room n X.A) : OpR X (compareOp .Eq) (rEqO X.K C sp E) := by
  intro pins s σ H x y v u Q I rx ry q
  obtain ⟨a, b, dx, fs, rfl, rfl, ha, hy, hsp⟩ := q
  cases rx
  cases ry
  obtain ⟨mA, J, _⟩ := ins_get I.hok ha
  obtain ⟨od, J, _⟩ := J.look
  obtain ⟨m, hF⟩ := I.fr
  have go : ∀ tb : Value, PySem.W.Looks (model X.prog X.w) s.heap (typeOf (.ref b)) tb → PySem.W.notFirst X.K C tb = true → wpAny (model X.prog X.w) X.A (richCompare .Eq (.ref a) (.ref b)) (EP X pins σ Q) X.xe s := fun tb ht hn => by
    refine PySem.W.cmp_K (op := .Eq) (tb := tb) hr.units0 hF I.ok.mod.kin J ht hn hs hf ?_
    have hl := F.len _ _ _ _ hsp
    have r2 : Vals [V.ref a, V.ref b] [Value.ref a, Value.ref b] := .cons rfl (.cons rfl .nil)
    refine wpAny_call (codeAny_mono (F.run X.A X.stack s H ⟨[.ref a, .ref b], []⟩ [.ref a, .ref b] [.ref a, .ref b] _ E hr I.env0 (by
      have := hb s [.ref a, .ref b] I.kIn (by simpa using hl)
      simpa using this) r2 hsp) fun r s' hq => ?_)
    cases r with
    | error e => exact hx pins σ H s e s' I hq
    | ok fl =>
      cases fl with
      | ret w =>
        obtain ⟨z, H', I', rz, t, ez, hQ⟩ := I.after hq
        subst ez
        cases rz
        exact ⟨.bl t, H', I', rfl, hQ⟩
      | next => exact False.elim hq
      | brk => exact False.elim hq
      | cont => exact False.elim hq
  rcases hy with ⟨dy, gs, hy⟩ | ⟨hn, ys, hy⟩
  · obtain ⟨mB, J', _⟩ := ins_get I.hok hy
    obtain ⟨od', J', _⟩ := J'.look
    exact go (.ref C) J'.type (by simp [PySem.W.notFirst])
  · obtain ⟨its, rv, ⟨o, ho, hc, _⟩, _⟩ := I.tuple hy
    exact go (.type "tuple") (fun A Q E s' k z => wpAny_typeOf (T := "tuple") ⟨o, k _ _ ho, hc⟩ z) hn
end Vf

namespace Vf
open PySem L2 PySem.Spec PyProof.Rows He
/-! ### an own class: all yes-or-no facts of it -/
def clsB (x : Str) (K : PySem.W.Frag) : Bool :=
  eqO (PySem.W.findIn K (.ref (ga K x)) "__class__") (some (some (.builtin "object.__class__"))) &&
  (eqO (PySem.W.specialIn K (.builtin "object.__class__") "__get__") (some (some (.builtin "getset_descriptor.__get__"))) && (decide (PySem.W.takesIn K (.builtin "object.__class__") = some true) &&
  (decide (PySem.W.mroIn K (ga K x) (.type "object") = some true) && (decide (PySem.W.kitOne K (.ref (ga K x)) (.ref (ga K x)) = some true) && (decide (PySem.W.kitOne K (.type "tuple") (.ref (ga K x)) = some false) && PySem.W.notFirst K (ga K x) (.type "tuple"))))))
structure ClsT (K : PySem.W.Frag) (x : Str) : Prop where
  ha : PySem.W.findIn K (.ref (ga K x)) "__class__" = some (some (.builtin "object.__class__"))
  hn : PySem.W.specialIn K (.builtin "object.__class__") "__get__" = some (some (.builtin "getset_descriptor.__get__"))
  htk : PySem.W.takesIn K (.builtin "object.__class__") = some true
  hm : PySem.W.mroIn K (ga K x) (.type "object") = some true
  own : PySem.W.kitOne K (.ref (ga K x)) (.ref (ga K x)) = some true
  tup : PySem.W.kitOne K (.type "tuple") (.ref (ga K x)) = some false
  nf : PySem.W.notFirst K (ga K x) (.type "tuple") = true
theorem clsB_ok {x : Str} {K : PySem.W.Frag} (c : clsB x K = true) : ClsT K x := by
  unfold clsB at c
  obtain ⟨c1, c⟩ := ba c
  obtain ⟨c2, c⟩ := ba c
  obtain ⟨c3, c⟩ := ba c
  obtain ⟨c4, c⟩ := ba c
  obtain ⟨c5, c⟩ := ba c
  obtain ⟨c6, c7⟩ := ba c
  exact ⟨eqO_ok c1, eqO_ok c2, of_decide_eq_true c3, of_decide_eq_true c4, of_decide_eq_true c5, of_decide_eq_true c6, c7⟩
/-- == by its own __eq__ -/
def eqB (x : Str) (K : PySem.W.Frag) : Bool := eqO (PySem.W.findIn K (.ref (ga K x)) "__eq__") (some (some (.ref (ma K (ga K x) "__eq__")))) && PySem.W.isFn K (.ref (ma K (ga K x) "__eq__"))
structure EqC (P : Program) (w : World) (K : PySem.W.Frag) (mg : Str → Option Value) (base : Heap) (k : Nat) (x : Str) (sp : Sp) : Prop where
  ex : ∃ (f : Addr) (fd : FuncData) (ps : List Str), FnOk P w K mg base CX0 k f fd ps sp ∧ PySem.W.findIn K (.ref (ga K x)) "__eq__" = some (some (.ref f)) ∧ PySem.W.isFn K (.ref f) = true ∧ Binds K fd ps []
theorem op_eqC {X : Cx} {k j : Nat} {x : Str} {sp : Sp} (c : EqC X.prog X.w X.K X.mg X.base k x sp) (hr : Room j X.A) (hk : k ≤ j) : OpR X (compareOp .Eq) (rEqO X.K (ga X.K x) sp E0) := by
  obtain ⟨f, fd, ps, F, hs, hf, hb⟩ := c.ex
  exact op_eqOwn F hs hf hb pass0 (hr.mono hk)
/-- C(e, .., k = v) -/
structure MakN (P : Program) (w : World) (K : PySem.W.Frag) (mg : Str → Option Value) (base : Heap) (k : Nat) (x : Str) (C : Addr) (sp : Sp) (n : Nat) (ks : List Str) (gV : List V → List V → List V) : Prop where
  ex : ∃ (f : Addr) (fd : FuncData) (ps : List Str) (g : List Value → List Value → List Value), Mk K C f ∧ FnOk P w K mg base CX0 k f fd ps sp ∧ mg x = some (.ref C) ∧ KBn K fd ps (n + 1) ks g gV
theorem pe_mkN {X : Cx} {k j n : Nat} {C : Addr} {x : Str} {sp : Sp} {p pos : Pos} {e : Expr} {es : List Expr} {kws : List Keyword} {ks : List Str} {t tk : TA} {gV : List V → List V → List V} (c : MakN X.prog X.w X.K X.mg X.base k x C sp n ks gV) (hr : Room j X.A) (hk : k + 1 ≤ j) (hg : Gl X x)
    (ha : PA X (e :: es) t) (hkw : PK X kws tk) (hall : (backToKw pos (keywordEach kws X.env)).all (·.1.isSome) = true := by rfl) (hks : (backToKw pos (keywordEach kws X.env)).filterMap (·.1) = ks := by rfl)
    (hdb : (x == ("__debug__" : Str)) = false := by decide) (he : starEach (e :: es) X.env = (false, eval e X.env) :: starEach es X.env := by rfl)
    (hpl : ((backTo pos (starEach (e :: es) X.env)).any (·.1) || (backToKw pos (keywordEach kws X.env)).any (·.1.isNone)) = false := by rfl) :
    PE X (.Call (.Name x p) (e :: es) kws pos) (tMakeN C n ks.length sp gV E0 t tk) := by
  obtain ⟨f, fd, ps, g, M, F, hm, b⟩ := c.ex
  exact pe_makeN M F (hr.mono hk) hg hm b pass0 ha hkw hall hks hdb he hpl
theorem e_tMake {C : Addr} {sp : Sp} {dvs : List V} {E : XK} {t : TA} {σ : L2.St} {H : Hp} {Q : VK} (q : t σ H fun vs H1 => ∀ x dx, H1 x = none → H1 dx = none → dx ≠ x → sp (.ref x :: (vs ++ dvs)) (upd (upd H1 dx (.own x)) x (.ins C dx [])) (fun v H2 => v = .non ∧ Q (.ref x) H2) E) : tMake C sp dvs E t σ H Q := q
theorem e_tMakeN {C : Addr} {n m : Nat} {sp : Sp} {gV : List V → List V → List V} {E : XK} {t tk : TA} {σ : L2.St} {H : Hp} {Q : VK} (q : t σ H fun vs H1 => tk σ H1 fun zs H2 => vs.length = n ∧ zs.length = m ∧
  ∀ x dx, H2 x = none → H2 dx = none → dx ≠ x → sp (gV (.ref x :: vs) zs) (upd (upd H2 dx (.own x)) x (.ins C dx [])) (fun v H3 => v = .non ∧ Q (.ref x) H3) E) : tMakeN C n m sp gV E t tk σ H Q := q
/-! ### == and != of data with any texts -/
def rEqP (K : PySem.W.Frag) : R2 := fun x y H Q => ∃ d e, Dp K H x d ∧ Dp K H y e ∧ d.plain = true ∧ e.plain = true ∧ d.depth ≤ 60 ∧ Q (.bl (PyData.eqv d e)) H
def rNeP (K : PySem.W.Frag) : R2 := fun x y H Q => ∃ d e, Dp K H x d ∧ Dp K H y e ∧ d.plain = true ∧ e.plain = true ∧ d.depth ≤ 60 ∧ Q (.bl (!PyData.eqv d e)) H
theorem op_eqP {X : Cx} (hu : X.A.units + 64 < cLine) : OpR X (compareOp .Eq) (rEqP X.K) := by
  intro pins s σ H x y v u Q I rx ry h
  obtain ⟨d, e, hd, he, sd, se, hp, q⟩ := h
  obtain ⟨as, r1⟩ := Dp.reads I d x v hd rx
  obtain ⟨bs, r2⟩ := Dp.reads I e y u he ry
  exact PySem.SeqAt.eq_plain r1 r2 sd se (by omega) ⟨.bl _, H, I, rfl, q⟩
theorem op_neP {X : Cx} (hu : X.A.units + 64 < cLine) : OpR X (compareOp .NotEq) (rNeP X.K) := by
  intro pins s σ H x y v u Q I rx ry h
  obtain ⟨d, e, hd, he, sd, se, hp, q⟩ := h
  obtain ⟨as, r1⟩ := Dp.reads I d x v hd rx
  obtain ⟨bs, r2⟩ := Dp.reads I e y u he ry
  exact PySem.SeqAt.ne_plain r1 r2 sd se (by omega) ⟨.bl _, H, I, rfl, q⟩
end Vf

namespace Vk40
open PySem PySem.Spec PyProof.Rows L2 Vf
def topS (i : Nat) : Stmt := PySem.Challenge.pw_folderkin_k40_first_pattern_decides.main.body.getD i (.Pass ⟨0, 0, 0, 0⟩)
abbrev s_Pattern___init__ : Stmt := inClass (topS 1) 0
abbrev N_Pattern___init__ : List Str := ["self", "atoms", "negated"]
theorem sc_Pattern___init__ : FnScope N_Pattern___init__ ["self", "atoms", "negated"] (defScope s_Pattern___init__) := ⟨rfl, rfl, rfl, by decide +kernel, rfl, by decide +kernel, by decide +kernel⟩
abbrev s_Pattern___eq__ : Stmt := inClass (topS 1) 1
abbrev N_Pattern___eq__ : List Str := ["self", "other"]
theorem sc_Pattern___eq__ : FnScope N_Pattern___eq__ ["self", "other"] (defScope s_Pattern___eq__) := ⟨rfl, rfl, rfl, by decide +kernel, rfl, by decide +kernel, by decide +kernel⟩
abbrev s_matches : Stmt := topS 2
abbrev N_matches : List Str := ["pattern", "name", "places", "char"]
theorem sc_matches : FnScope N_matches ["pattern", "name"] (defScope s_matches) := ⟨rfl, rfl, rfl, by decide +kernel, rfl, by decide +kernel, by decide +kernel⟩
abbrev s_leaves_out : Stmt := topS 3
abbrev N_leaves_out : List Str := ["patterns", "name", "pattern"]
theorem sc_leaves_out : FnScope N_leaves_out ["patterns", "name"] (defScope s_leaves_out) := ⟨rfl, rfl, rfl, by decide +kernel, rfl, by decide +kernel, by decide +kernel⟩
abbrev s_start_places : Stmt := topS 4
abbrev N_start_places : List Str := ["pattern"]
theorem sc_start_places : FnScope N_start_places ["pattern"] (defScope s_start_places) := ⟨rfl, rfl, rfl, by decide +kernel, rfl, by decide +kernel, by decide +kernel⟩
abbrev s_next_places : Stmt := topS 5
abbrev N_next_places : List Str := ["pattern", "places", "char", "reached", "place", "chars", "repeats"]
theorem sc_next_places : FnScope N_next_places ["pattern", "places", "char"] (defScope s_next_places) := ⟨rfl, rfl, rfl, by decide +kernel, rfl, by decide +kernel, by decide +kernel⟩
abbrev s_with_skipped : Stmt := topS 6
abbrev N_with_skipped : List Str := ["pattern", "reached", "atoms", "marked", "place"]
theorem sc_with_skipped : FnScope N_with_skipped ["pattern", "reached"] (defScope s_with_skipped) := ⟨rfl, rfl, rfl, by decide +kernel, rfl, by decide +kernel, by decide +kernel⟩
abbrev s_law_draw : Stmt := topS 8
abbrev N_law_draw : List Str := ["state", "script", "size", "at", "cell", "first", "digit"]
theorem sc_law_draw : FnScope N_law_draw ["state", "script", "size"] (defScope s_law_draw) := ⟨rfl, rfl, rfl, by decide +kernel, rfl, by decide +kernel, by decide +kernel⟩
abbrev s_law_all : Stmt := topS 9
abbrev N_law_all : List Str := []
theorem sc_law_all : FnScope N_law_all [] (defScope s_law_all) := ⟨rfl, rfl, rfl, by decide +kernel, rfl, by decide +kernel, by decide +kernel⟩
abbrev s_law_told : Stmt := topS 10
abbrev N_law_told : List Str := ["actual", "due"]
theorem sc_law_told : FnScope N_law_told ["actual", "due"] (defScope s_law_told) := ⟨rfl, rfl, rfl, by decide +kernel, rfl, by decide +kernel, by decide +kernel⟩
abbrev s_law_atom : Stmt := topS 11
abbrev N_law_atom : List Str := ["state", "script", "before", "plain", "kind", "period", "rest", "other", "low", "char", "k"]
theorem sc_law_atom : FnScope N_law_atom ["state", "script", "before"] (defScope s_law_atom) := ⟨rfl, rfl, rfl, by decide +kernel, rfl, by decide +kernel, by decide +kernel⟩
abbrev s_law_atoms : Stmt := topS 12
abbrev N_law_atoms : List Str := ["state", "script", "most", "atoms", "k"]
theorem sc_law_atoms : FnScope N_law_atoms ["state", "script", "most"] (defScope s_law_atoms) := ⟨rfl, rfl, rfl, by decide +kernel, rfl, by decide +kernel, by decide +kernel⟩
abbrev s_law_name : Stmt := topS 13
abbrev N_law_name : List Str := ["state", "script", "atoms", "name", "characters", "repeats", "many", "k", "at", "kind", "char"]
theorem sc_law_name : FnScope N_law_name ["state", "script", "atoms"] (defScope s_law_name) := ⟨rfl, rfl, rfl, by decide +kernel, rfl, by decide +kernel, by decide +kernel⟩
abbrev s_law_table : Stmt := topS 14
abbrev N_law_table : List Str := ["atoms", "name", "rows", "characters", "repeats", "above", "row", "k"]
theorem sc_law_table : FnScope N_law_table ["atoms", "name"] (defScope s_law_table) := ⟨rfl, rfl, rfl, by decide +kernel, rfl, by decide +kernel, by decide +kernel⟩
abbrev s_law_due : Stmt := topS 15
abbrev N_law_due : List Str := ["rows", "name", "atoms", "negated"]
theorem sc_law_due : FnScope N_law_due ["rows", "name"] (defScope s_law_due) := ⟨rfl, rfl, rfl, by decide +kernel, rfl, by decide +kernel, by decide +kernel⟩
abbrev s_law_kept : Stmt := topS 16
abbrev N_law_kept : List Str := ["rows", "name", "patterns", "given", "found", "k", "atoms", "negated"]
theorem sc_law_kept : FnScope N_law_kept ["rows", "name"] (defScope s_law_kept) := ⟨rfl, rfl, rfl, by decide +kernel, rfl, by decide +kernel, by decide +kernel⟩
abbrev s_law : Stmt := topS 17
abbrev N_law : List Str := ["script", "state", "many", "rows", "k", "atoms", "names", "whole", "name"]
theorem sc_law : FnScope N_law ["script"] (defScope s_law) := ⟨rfl, rfl, rfl, by decide +kernel, rfl, by decide +kernel, by decide +kernel⟩
structure Txt (K : PySem.W.Frag) (mg : Str → Option Value) : Prop where
  f_bool : mg "bool" = none
  f_int : mg "int" = none
  f_isinstance : mg "isinstance" = none
  f_len : mg "len" = none
  f_list : mg "list" = none
  f_range : mg "range" = none
  f_tuple : mg "tuple" = none
  cl_Pattern : Cls K (He.ga K "Pattern")
  g_Pattern : mg "Pattern" = some (.ref (He.ga K "Pattern"))
  no_Pattern_atoms : NoAttr K (He.ga K "Pattern") "atoms"
  no_Pattern_negated : NoAttr K (He.ga K "Pattern") "negated"
  ct_Pattern : ClsT K "Pattern"
theorem same_tup {K : PySem.W.Frag} {H H' : Hp} {a : Addr} {xs : List V} (e : Same H H') (h : SqT K H a xs) : SqT K H' a xs := by
  rcases h with (h | ⟨o, h⟩) | h
  · exact .inl (.inl (e _ _ h))
  · exact .inl (.inr ⟨o, e _ _ h⟩)
  · exact .inr h
theorem lc_filt {K : PySem.W.Frag} {g : TG} {tt : TT} {te : TE} {vs : List Nat} {σ : L2.St} {Da : Addr} {H0 : Hp} {Q : VK} {lo : Int} {n : Nat} (hD : H0 Da = none) (hn : n ≤ 1000000) (p : Nat → Bool) (f : Nat → V)
    (hs : ∀ (i : Nat) (H2 : Hp) (C : VK) (E : Hp → Prop), i < n → Same H0 H2 → (p i = true → ∀ H3, Same H2 H3 → C (f i) H3) → (p i = false → ∀ H3, Same H2 H3 → E H3) →
      g (.int (lo + (i : Nat))) (wipe σ vs) H2 fun σ2 H2 => wipe σ2 vs = wipe σ vs ∧ tt σ2 H2 fun b H3 => if b = true then te σ2 H3 C else E H3)
    (hd : ∀ (H : Hp), Same H0 H → H Da = some (.lst (((List.range n).filter p).map f)) → Q (.ref Da) H) : LcB (Itr lo n) g tt te vs σ Da H0 Q := by
  refine lc_rng (fun i H2 => Same H0 H2 ∧ H2 Da = some (.lst (((List.range i).filter p).map f))) ⟨same_new hD, upd_same⟩ (fun i H2 hi q => ?_) (fun H2 q => hd H2 q.1 q.2)
  obtain ⟨s4, e4⟩ := q
  refine hs i H2 _ _ hi s4 (fun hp H3 s5 => ?_) (fun hp H3 s5 => ?_)
  · refine ⟨_, s5 _ _ e4, Nat.lt_of_le_of_lt (Nat.le_trans (by rw [List.length_map]; exact List.length_filter_le ..) (by rw [List.length_range]; omega : _ ≤ 1000000)) (by decide), Same.mut (s4.trans s5) hD, ?_⟩
    rw [upd_same, List.range_succ, List.filter_append, List.filter_cons_of_pos hp, List.map_append]
    rfl
  · refine ⟨s4.trans s5, ?_⟩
    rw [s5 _ _ e4, List.range_succ, List.filter_append, List.filter_cons_of_neg (by rw [hp]; exact Bool.false_ne_true), List.filter_nil, List.append_nil]
theorem e_tFld {K : PySem.W.Frag} {ta : TE} {f : Str} {σ : L2.St} {H : Hp} {Q : VK} (q : ta σ H fun x H1 => ∃ a C dx fs v, x = .ref a ∧ H1 a = some (.ins C dx fs) ∧ Cls K C ∧ NoAttr K C f ∧ fs.lookup f = some v ∧ Q v H1) : tFld K ta f σ H Q := q
theorem e_sFld {K : PySem.W.Frag} {ta tv : TE} {f : Str} {D : Ends} {σ : L2.St} {H : Hp} (q : tv σ H fun y H1 => ta σ H1 fun x H2 => ∃ a C dx fs, x = .ref a ∧ H2 a = some (.ins C dx fs) ∧ Cls K C ∧ NoAttr K C f ∧ fs.length < 1000 ∧ D.nx σ (upd H2 a (.ins C dx (putF f y fs)))) : sFld K ta tv f D σ H := q
abbrev cPat (K : PySem.W.Frag) : Addr := He.ga K "Pattern"
/-- a pattern: its atoms are the values vs -/
def Pat (K : PySem.W.Frag) (H : Hp) (a : Addr) (vs : List V) (neg : Bool) : Prop := ∃ (dx t : Addr) (fs : List (Str × V)), H a = some (.ins (cPat K) dx fs) ∧ fs.lookup ("atoms" : Str) = some (V.ref t) ∧ fs.lookup ("negated" : Str) = some (V.bl neg) ∧ H t = some (.tup vs)
def sp_Pattern___init__ (K : PySem.W.Frag) : Sp := sp3 fun x y z H Q => ∃ (a p dx : Addr) (vs : List V) (neg : Bool), x = .ref a ∧ y = .ref p ∧ z = .bl neg ∧ H a = some (.ins (cPat K) dx []) ∧ (SqL K H p vs ∨ H p = some (.tup vs)) ∧
  ∀ H' : Hp, (∀ b, b ≠ a → ∀ o, H b = some o → H' b = some o) → Pat K H' a vs neg → Q .non H'
abbrev Atm := Str × Bool
def rep (as : List Atm) (i : Nat) : Bool := ((as[i]?).map (·.2)).getD false
/-- the refs qs stand for the atoms as -/
abbrev Ats (K : PySem.W.Frag) (H : Hp) (qs : List Addr) (as : List Atm) : Prop := Paired (fun q (c : Atm) => SqT K H q [.str c.1, .bl c.2]) qs as
def skp (as : List Atm) (rs : List Int) (k : Nat) : Bool := decide (((k : Nat) : Int) ∈ rs) || (decide (1 ≤ k) && (decide (((k : Nat) : Int) - 1 ∈ rs) && rep as (k - 1)))
theorem sq_upd {K : PySem.W.Frag} {H : Hp} {p a : Addr} {xs : List V} {o : HO} (h : SqT K H p xs) (n : p ≠ a) : SqT K (upd H a o) p xs := by
  rcases h with (h | ⟨c9, h⟩) | h
  · exact .inl (.inl (by rw [upd_ne n]; exact h))
  · exact .inl (.inr ⟨c9, by rw [upd_ne n]; exact h⟩)
  · exact .inr h
def mks (n : Nat) (m : Nat → Bool) : List V := (List.range (n + 1)).map fun k => V.bl (m k)
theorem mks_len (n : Nat) (m : Nat → Bool) : (mks n m).length = n + 1 := by unfold mks; simp
theorem mks_set {n : Nat} {m : Nat → Bool} {i : Nat} (h : i ≤ n) : (mks n m).set i (.bl true) = mks n fun k => decide (k = i) || m k := by
  refine List.ext_getElem? fun k => ?_
  rw [List.getElem?_set]
  unfold mks
  by_cases hk : k < n + 1
  · have r1 : ((List.range (n + 1)).map fun k => V.bl (decide (k = i) || m k))[k]? = some (V.bl (decide (k = i) || m k)) := by rw [List.getElem?_map, List.getElem?_range hk]; rfl
    have r2 : ((List.range (n + 1)).map fun k => V.bl (m k))[k]? = some (V.bl (m k)) := by rw [List.getElem?_map, List.getElem?_range hk]; rfl
    rw [r1, r2]
    by_cases e : i = k
    · rw [if_pos e, if_pos (by simp; omega), decide_eq_true e.symm]; rfl
    · rw [if_neg e, decide_eq_false fun q => e q.symm]; rfl
  · rw [List.getElem?_eq_none (l := (List.range (n + 1)).map fun k => V.bl (decide (k = i) || m k)) (by simp; omega)]
    by_cases e : i = k
    · omega
    · rw [if_neg e, List.getElem?_eq_none (by simp; omega)]
theorem rep_false (n : Nat) : (List.replicate n [V.bl false]).flatten = (List.range n).map fun _ => V.bl false := by
  induction n with
  | zero => rfl
  | succ n ih =>
    rw [List.replicate_succ', List.flatten_append, ih, List.range_succ, List.map_append]
    rfl
theorem skp_iff {as : List Atm} {rs : List Int} {k : Nat} : skp as rs k = true ↔ (((k : Nat) : Int) ∈ rs ∨ (1 ≤ k ∧ ((k : Nat) : Int) - 1 ∈ rs ∧ rep as (k - 1) = true)) := by
  unfold skp
  rw [Bool.or_eq_true, Bool.and_eq_true, Bool.and_eq_true, decide_eq_true_eq, decide_eq_true_eq, decide_eq_true_eq]
theorem skp_yes {as : List Atm} {pre : List Int} {j : Nat} (h : rep as j = true) : (fun k => decide (k = j + 1) || (decide (k = j) || skp as pre k)) = skp as (pre ++ [((j : Nat) : Int)]) := by
  funext k
  refine Bool.eq_iff_iff.mpr ?_
  rw [Bool.or_eq_true, Bool.or_eq_true, decide_eq_true_eq, decide_eq_true_eq, skp_iff, skp_iff, List.mem_append, List.mem_append, List.mem_singleton, List.mem_singleton]
  constructor
  · rintro (e | e | e | ⟨a, b, c⟩)
    · exact .inr ⟨by omega, .inr (by omega), by rw [e, Nat.add_sub_cancel]; exact h⟩
    · exact .inl (.inr (by omega))
    · exact .inl (.inl e)
    · exact .inr ⟨a, .inl b, c⟩
  · rintro ((e | e) | ⟨a, b | b, c⟩)
    · exact .inr (.inr (.inl e))
    · exact .inr (.inl (by omega))
    · exact .inr (.inr (.inr ⟨a, b, c⟩))
    · exact .inl (by omega)
theorem skp_no {as : List Atm} {pre : List Int} {j : Nat} (h : rep as j = false) : (fun k => decide (k = j) || skp as pre k) = skp as (pre ++ [((j : Nat) : Int)]) := by
  funext k
  refine Bool.eq_iff_iff.mpr ?_
  rw [Bool.or_eq_true, decide_eq_true_eq, skp_iff, skp_iff, List.mem_append, List.mem_append, List.mem_singleton, List.mem_singleton]
  constructor
  · rintro (e | e | ⟨a, b, c⟩)
    · exact .inl (.inr (by omega))
    · exact .inl (.inl e)
    · exact .inr ⟨a, .inl b, c⟩
  · rintro ((e | e) | ⟨a, b | b, c⟩)
    · exact .inr (.inl e)
    · exact .inl (by omega)
    · exact .inr (.inr ⟨a, b, c⟩)
    · have e2 : k - 1 = j := by omega
      rw [e2, h] at c
      cases c
theorem prd_get {α β : Type} {R : α → β → Prop} : ∀ {xs : List α} {ys : List β}, Paired R xs ys → ∀ (i : Nat), i < ys.length → ∃ x y, xs[i]? = some x ∧ ys[i]? = some y ∧ R x y
  | _, _, .nil, i, h => by simp at h
  | _, _, .cons a b, 0, h => ⟨_, _, rfl, rfl, a⟩
  | _, _, .cons a b, i + 1, h => by
    obtain ⟨x, y, h1, h2, h3⟩ := prd_get b i (by simpa using h)
    exact ⟨x, y, by simpa using h1, by simpa using h2, h3⟩
def plc (n : Nat) (m : Nat → Bool) : List Int := ((List.range (n + 1)).filter m).map fun k => ((k : Nat) : Int)
def sp_with_skipped (K : PySem.W.Frag) : Sp := sp2 fun x y H Q => ∃ (a p : Addr) (qs : List Addr) (as : List Atm) (neg : Bool) (rs : List Int), x = .ref a ∧ y = .ref p ∧ Pat K H a (qs.map V.ref) neg ∧ Ats K H qs as ∧ as.length ≤ 1000 ∧
  SqL K H p (rs.map V.int) ∧ (∀ k ∈ rs, 0 ≤ k ∧ k ≤ as.length) ∧ ∀ (r : Addr) (H' : Hp), Same H H' → H' r = some (.tup ((plc as.length (skp as rs)).map V.int)) → Q (.ref r) H'
def sp_start_places (K : PySem.W.Frag) : Sp := sp1 fun x H Q => ∃ (a : Addr) (qs : List Addr) (as : List Atm) (neg : Bool), x = .ref a ∧ Pat K H a (qs.map V.ref) neg ∧ Ats K H qs as ∧ as.length ≤ 1000 ∧
  ∀ (r : Addr) (H' : Hp), Same H H' → H' r = some (.tup ((plc as.length (skp as [0])).map V.int)) → Q (.ref r) H'
theorem Pat.same {K : PySem.W.Frag} {H H' : Hp} {a : Addr} {vs : List V} {neg : Bool} (h : Pat K H a vs neg) (e : Same H H') : Pat K H' a vs neg := by
  obtain ⟨dx, t, fs, h1, h2, h3, h4⟩ := h
  exact ⟨dx, t, fs, e _ _ h1, h2, h3, e _ _ h4⟩
theorem ats_same {K : PySem.W.Frag} {H H' : Hp} {as : List Atm} : ∀ {qs : List Addr}, Same H H' → Ats K H qs as → Ats K H' qs as := by
  intro qs e h
  induction h with
  | nil => exact .nil
  | cons a b ih => exact .cons (same_tup e a) ih
def PatA (K : PySem.W.Frag) (H : Hp) (a : Addr) (as : List Atm) (neg : Bool) : Prop := ∃ qs : List Addr, Pat K H a (qs.map V.ref) neg ∧ Ats K H qs as
def hit (as : List Atm) (u : Nat) (m : Int) : List Int := match as[m.toNat]? with
  | some c => if u ∈ c.1.cps.toList then [if c.2 = true then m else m + 1] else []
  | none => []
theorem hit_rg {as : List Atm} {u : Nat} {m k : Int} (h0 : 0 ≤ m) (h : k ∈ hit as u m) : 0 ≤ k ∧ k ≤ as.length := by
  unfold hit at h
  cases e : as[m.toNat]? with
  | none => rw [e] at h; cases h
  | some c =>
    rw [e] at h
    have hl := (List.getElem?_eq_some_iff.mp e).1
    dsimp only at h
    split at h
    · have h := List.mem_singleton.mp h
      rw [h]
      split <;> omega
    · cases h
theorem hit_len (as : List Atm) (u : Nat) : ∀ ms : List Int, (ms.flatMap (hit as u)).length ≤ ms.length
  | [] => Nat.le_refl _
  | m :: r => by
    have ih := hit_len as u r
    have h1 : (hit as u m).length ≤ 1 := by
      unfold hit
      split
      · split <;> simp
      · simp
    rw [List.flatMap_cons, List.length_append, List.length_cons]
    omega
def sp_next_places (K : PySem.W.Frag) : Sp := sp3 fun x y z H Q => ∃ (a p : Addr) (qs : List Addr) (as : List Atm) (neg : Bool) (ms : List Int) (u : Nat), x = .ref a ∧ y = .ref p ∧ z = .str ⟨#[u]⟩ ∧ Pat K H a (qs.map V.ref) neg ∧ Ats K H qs as ∧ as.length ≤ 1000 ∧
  SqT K H p (ms.map V.int) ∧ (∀ m ∈ ms, 0 ≤ m ∧ m ≤ as.length) ∧ ms.length ≤ 2000 ∧ ∀ (r : Addr) (H' : Hp), Same H H' → H' r = some (.tup ((plc as.length (skp as (ms.flatMap (hit as u)))).map V.int)) → Q (.ref r) H'
def stp (as : List Atm) (S : List Int) (u : Nat) : List Int := plc as.length (skp as (S.flatMap (hit as u)))
def st0 (as : List Atm) : List Int := plc as.length (skp as [0])
def mat (as : List Atm) (z : Str) : Bool := decide (((as.length : Nat) : Int) ∈ z.cps.toList.foldl (stp as) (st0 as))
theorem plc_rg {n : Nat} {m : Nat → Bool} {k : Int} (h : k ∈ plc n m) : 0 ≤ k ∧ k ≤ n := by
  obtain ⟨i, hi, rfl⟩ := List.mem_map.mp h
  have := List.mem_range.mp (List.mem_filter.mp hi).1
  omega
theorem plc_len (n : Nat) (m : Nat → Bool) : (plc n m).length ≤ n + 1 := by
  unfold plc
  rw [List.length_map]
  exact Nat.le_trans (List.length_filter_le ..) (by rw [List.length_range]; exact Nat.le_refl _)
def sp_matches (K : PySem.W.Frag) : Sp := sp2 fun x y H Q => ∃ (a : Addr) (qs : List Addr) (as : List Atm) (neg : Bool) (z : Str), x = .ref a ∧ y = .str z ∧ Pat K H a (qs.map V.ref) neg ∧ Ats K H qs as ∧ as.length ≤ 1000 ∧ z.length ≤ 1000 ∧
  ∀ H' : Hp, Same H H' → Q (.bl (mat as z)) H'
theorem inV_ints (x : Int) (ys : List Int) : inV (.int x) (ys.map V.int) = decide (x ∈ ys) := by
  unfold inV
  refine Bool.eq_iff_iff.mpr ?_
  rw [List.any_eq_true, decide_eq_true_eq]
  constructor
  · rintro ⟨v, hv, e⟩
    obtain ⟨y, hy, rfl⟩ := List.mem_map.mp hv
    have e2 : y = x := by simpa [eqV] using e
    rw [← e2]; exact hy
  · intro h
    exact ⟨.int x, List.mem_map.mpr ⟨x, h, rfl⟩, by simp [eqV]⟩
theorem flat_ints (ys : List Int) : (ys.map V.int).all flatV = true := List.all_eq_true.mpr fun v hv => by
  obtain ⟨y, _, rfl⟩ := List.mem_map.mp hv
  rfl
theorem mk_same {H2 H1 : Hp} {x dx : Addr} {o1 o2 : HO} (hx : H2 x = none) (hdx : H2 dx = none) (k : ∀ b, b ≠ x → ∀ o, (upd (upd H2 dx o1) x o2) b = some o → H1 b = some o) : Same H2 H1 := fun b o e => k b (ne_of_none e hx) o (by rw [upd_ne (ne_of_none e hx), upd_ne (ne_of_none e hdx)]; exact e)
theorem mk_pat {K : PySem.W.Frag} {H2 : Hp} {x dx p : Addr} {vs : List V} {neg : Bool} {R : Hp → Prop} {E : XK} (hx : H2 x = none) (hdx : H2 dx = none) (nx : dx ≠ x) (hp : SqL K H2 p vs ∨ H2 p = some (.tup vs))
    (q : ∀ H3, Same H2 H3 → Pat K H3 x vs neg → R H3) : sp_Pattern___init__ K [.ref x, .ref p, .bl neg] (upd (upd H2 dx (.own x)) x (.ins (cPat K) dx [])) (fun v H3 => v = .non ∧ R H3) E := by
  have hx' : (upd H2 dx (.own x)) x = none := by rw [upd_ne (Ne.symm nx)]; exact hx
  have s := (same_new (o := .own x) hdx).trans (same_new (o := .ins (cPat K) dx []) hx')
  refine ⟨_, _, _, rfl, x, p, dx, vs, neg, rfl, rfl, rfl, upd_same, ?_, fun H1 k1 hP => ⟨rfl, q H1 (mk_same hx hdx k1) hP⟩⟩
  rcases hp with hp | hp
  · exact .inl (s.seq hp)
  · exact .inr (s _ _ hp)
theorem fld_atoms {K : PySem.W.Frag} {H : Hp} {a : Addr} {vs : List V} {neg : Bool} {R : V → Prop} (c1 : Cls K (cPat K)) (c2 : NoAttr K (cPat K) "atoms") (h : Pat K H a vs neg) (q : ∀ t, H t = some (.tup vs) → R (.ref t)) : ∃ a' C dx fs v, V.ref a = .ref a' ∧ H a' = some (.ins C dx fs) ∧ Cls K C ∧ NoAttr K C "atoms" ∧ fs.lookup ("atoms" : Str) = some v ∧ R v := by
  obtain ⟨dx, t, fs, h1, h2, h3, h4⟩ := h
  exact ⟨a, _, dx, fs, _, rfl, h1, c1, c2, h2, q t h4⟩
theorem fld_neg {K : PySem.W.Frag} {H : Hp} {a : Addr} {vs : List V} {neg : Bool} {R : V → Prop} (c1 : Cls K (cPat K)) (c2 : NoAttr K (cPat K) "negated") (h : Pat K H a vs neg) (q : R (.bl neg)) : ∃ a' C dx fs v, V.ref a = .ref a' ∧ H a' = some (.ins C dx fs) ∧ Cls K C ∧ NoAttr K C "negated" ∧ fs.lookup ("negated" : Str) = some v ∧ R v := by
  obtain ⟨dx, t, fs, h1, h2, h3, h4⟩ := h
  exact ⟨a, _, dx, fs, _, rfl, h1, c1, c2, h3, q⟩
theorem ats_imp {K : PySem.W.Frag} {H H' : Hp} {as : List Atm} (f : ∀ {x : Addr} {xs : List V}, SqT K H x xs → SqT K H' x xs) : ∀ {qs : List Addr}, Ats K H qs as → Ats K H' qs as := by
  intro qs h
  induction h with
  | nil => exact .nil
  | cons a b ih => exact .cons (f a) ih
theorem tup_updL {K : PySem.W.Frag} {H : Hp} {g x : Addr} {ys xs : List V} {o : HO} (e : H g = some (.lst ys)) (h : SqT K H x xs) : SqT K (upd H g o) x xs := by
  rcases h with (h | ⟨o, h⟩) | h
  · exact .inl (.inl (by rw [upd_ne (fun z => by rw [z, e] at h; cases h)]; exact h))
  · exact .inl (.inr ⟨o, by rw [upd_ne (fun z => by rw [z, e] at h; cases h)]; exact h⟩)
  · exact .inr h
theorem pat_updL {K : PySem.W.Frag} {H : Hp} {g a : Addr} {ys vs : List V} {neg : Bool} {o : HO} (e : H g = some (.lst ys)) (h : Pat K H a vs neg) : Pat K (upd H g o) a vs neg := by
  obtain ⟨dx, t, fs, h1, h2, h3, h4⟩ := h
  exact ⟨dx, t, fs, by rw [upd_ne (fun z => by rw [z, e] at h1; cases h1)]; exact h1, h2, h3, by rw [upd_ne (fun z => by rw [z, e] at h4; cases h4)]; exact h4⟩
theorem PatA.same {K : PySem.W.Frag} {H H' : Hp} {a : Addr} {as : List Atm} {neg : Bool} (h : PatA K H a as neg) (e : Same H H') : PatA K H' a as neg := by
  obtain ⟨qs, h1, h2⟩ := h
  exact ⟨qs, h1.same e, ats_same e h2⟩
def sp_Pattern___eq__ (K : PySem.W.Frag) : Sp := sp2 fun x y H Q => ∃ (a : Addr) (as : List Atm) (neg : Bool), x = .ref a ∧ PatA K H a as neg ∧
  ((∃ (b : Addr) (bs : List Atm) (neg2 : Bool), y = .ref b ∧ PatA K H b bs neg2 ∧ Q (.bl (decide (as = bs) && (neg == neg2))) H) ∨ (∃ (t : Addr) (ys : List V), y = .ref t ∧ H t = some (.tup ys) ∧ Q (.bl false) H))
/-! atoms as data -/
abbrev Da (as : List Atm) : List PyData := as.map fun c => .tuple [.str c.1, .bool c.2]
theorem da_all {K : PySem.W.Frag} {H : Hp} : ∀ {qs : List Addr} {as : List Atm}, Ats K H qs as → DpAll K H (qs.map V.ref) (Da as)
  | _, _, .nil => .nil
  | _, _, .cons (b := c) a b => .cons (.tup (xs := [.str c.1, .bl c.2]) a (.cons (.str _) (.cons (.bl _) .nil))) (da_all b)
theorem da_eqv : ∀ v w : List Atm, PyData.eqvAll (Da v) (Da w) = decide (v = w)
  | [], [] => by
    simp [PyData.eqvAll]
  | [], _ :: _ => by
    simp [PyData.eqvAll]
  | _ :: _, [] => by
    simp [PyData.eqvAll]
  | c :: v, d :: w => by
    have ih := da_eqv v w
    show ((PyData.eqv (.str c.1) (.str d.1) && (PyData.eqv (.bool c.2) (.bool d.2) && true)) && PyData.eqvAll (Da v) (Da w)) = _
    rw [ih]
    show (((c.1 == d.1) && ((c.2 == d.2) && true)) && decide (v = w)) = _
    obtain ⟨c1, c2⟩ := c
    obtain ⟨d1, d2⟩ := d
    by_cases h1 : c1 = d1 <;> by_cases h2 : c2 = d2 <;> by_cases h3 : v = w <;> simp [h1, h2, h3]
theorem da_can : ∀ v : List Atm, PyData.plainAll (Da v) = true
  | [] => rfl
  | c :: v => by
    show (PyData.plainAll [.str c.1, .bool c.2] && PyData.plainAll (Da v)) = true
    rw [da_can v]; rfl
theorem da_depth : ∀ v : List Atm, PyData.depthAll (Da v) ≤ 1
  | [] => by
    show 0 ≤ 1
    omega
  | c :: v => by
    have ih := da_depth v
    show max (PyData.depthAll [.str c.1, .bool c.2] + 1) (PyData.depthAll (Da v)) ≤ 1
    have e : PyData.depthAll [.str c.1, .bool c.2] = 0 := rfl
    rw [e]
    omega
/-- a row of atoms, a list's or a tuple's -/
def AtL (K : PySem.W.Frag) (H : Hp) (a : Addr) (as : List Atm) : Prop := ∃ qs : List Addr, SqL K H a (qs.map V.ref) ∧ Ats K H qs as
def AtT (K : PySem.W.Frag) (H : Hp) (a : Addr) (as : List Atm) : Prop := ∃ qs : List Addr, SqT K H a (qs.map V.ref) ∧ Ats K H qs as
theorem AtL.same {K : PySem.W.Frag} {H H' : Hp} {a : Addr} {as : List Atm} (h : AtL K H a as) (e : Same H H') : AtL K H' a as := by
  obtain ⟨qs, h1, h2⟩ := h
  exact ⟨qs, e.seq h1, ats_same e h2⟩
theorem AtT.same {K : PySem.W.Frag} {H H' : Hp} {a : Addr} {as : List Atm} (h : AtT K H a as) (e : Same H H') : AtT K H' a as := by
  obtain ⟨qs, h1, h2⟩ := h
  exact ⟨qs, same_tup e h1, ats_same e h2⟩
theorem dd (v : List Atm) : PyData.depthAll (Da v) + 1 ≤ 60 := Nat.le_trans (Nat.succ_le_succ (da_depth v)) (by decide)
theorem e_eqAT {K : PySem.W.Frag} {H : Hp} {Q : VK} {a b : Addr} {v w : List Atm} (h1 : AtT K H a v) (h2 : AtT K H b w) (q : Q (.bl (decide (v = w))) H) : rEqP K (.ref a) (.ref b) H Q := by
  obtain ⟨ps, s1, p1⟩ := h1
  obtain ⟨qs, s2, p2⟩ := h2
  refine ⟨_, _, .tup s1 (da_all p1), .tup s2 (da_all p2), da_can v, da_can w, dd v, ?_⟩
  rw [show PyData.eqv (.tuple (Da v)) (.tuple (Da w)) = PyData.eqvAll (Da v) (Da w) from rfl, da_eqv]
  exact q
theorem e_neAT {K : PySem.W.Frag} {H : Hp} {Q : VK} {a b : Addr} {v w : List Atm} (h1 : AtT K H a v) (h2 : AtT K H b w) (q : Q (.bl (!decide (v = w))) H) : rNeP K (.ref a) (.ref b) H Q := by
  obtain ⟨ps, s1, p1⟩ := h1
  obtain ⟨qs, s2, p2⟩ := h2
  refine ⟨_, _, .tup s1 (da_all p1), .tup s2 (da_all p2), da_can v, da_can w, dd v, ?_⟩
  rw [show PyData.eqv (.tuple (Da v)) (.tuple (Da w)) = PyData.eqvAll (Da v) (Da w) from rfl, da_eqv]
  exact q
theorem e_eqAL {K : PySem.W.Frag} {H : Hp} {Q : VK} {a b : Addr} {v w : List Atm} (h1 : AtL K H a v) (h2 : AtL K H b w) (q : Q (.bl (decide (v = w))) H) : rEqP K (.ref a) (.ref b) H Q := by
  obtain ⟨ps, s1, p1⟩ := h1
  obtain ⟨qs, s2, p2⟩ := h2
  refine ⟨_, _, .lst s1 (da_all p1), .lst s2 (da_all p2), da_can v, da_can w, dd v, ?_⟩
  rw [show PyData.eqv (.list (Da v)) (.list (Da w)) = PyData.eqvAll (Da v) (Da w) from rfl, da_eqv]
  exact q
theorem e_eqPP {K : PySem.W.Frag} {H : Hp} {a b : Addr} {as bs : List Atm} {n1 n2 : Bool} {Q : VK} {E : XK} (h1 : PatA K H a as n1) (h2 : PatA K H b bs n2) (q : Q (.bl (decide (as = bs) && (n1 == n2))) H) : rEqO K (He.ga K "Pattern") (sp_Pattern___eq__ K) E (.ref a) (.ref b) H Q := by
  obtain ⟨qs, ⟨dx, t, fs, ha, f1, f2, ht⟩, hA⟩ := id h1
  obtain ⟨rs, ⟨dy, u, gs, hb, g1, g2, hu⟩, hB⟩ := id h2
  exact ⟨a, b, dx, fs, rfl, rfl, ha, .inl ⟨dy, gs, hb⟩, _, _, rfl, a, as, n1, rfl, h1, .inl ⟨b, bs, n2, rfl, h2, _, rfl, q⟩⟩
theorem e_eqPT {K : PySem.W.Frag} {H : Hp} {a b : Addr} {as : List Atm} {ys : List V} {n1 : Bool} {Q : VK} {E : XK} (ct : ClsT K "Pattern") (h1 : PatA K H a as n1) (h2 : H b = some (.tup ys)) (q : Q (.bl false) H) : rEqO K (He.ga K "Pattern") (sp_Pattern___eq__ K) E (.ref a) (.ref b) H Q := by
  obtain ⟨qs, ⟨dx, t, fs, ha, f1, f2, ht⟩, hA⟩ := id h1
  exact ⟨a, b, dx, fs, rfl, rfl, ha, .inr ⟨ct.nf, ys, SqT.of h2⟩, _, _, rfl, a, as, n1, rfl, h1, .inr ⟨b, ys, rfl, h2, _, rfl, q⟩⟩
theorem prd_drop {α β : Type} {R : α → β → Prop} : ∀ {xs : List α} {ys : List β} (n : Nat), Paired R xs ys → Paired R (xs.drop n) (ys.drop n)
  | _, _, 0, h => by simpa using h
  | _, _, n + 1, .nil => by simpa using Paired.nil
  | _, _, n + 1, .cons a b => prd_drop n b
theorem prd_take {α β : Type} {R : α → β → Prop} : ∀ {xs : List α} {ys : List β} (n : Nat), Paired R xs ys → Paired R (xs.take n) (ys.take n)
  | _, _, 0, h => by simpa using Paired.nil
  | _, _, n + 1, .nil => by simpa using Paired.nil
  | _, _, n + 1, .cons a b => by
    rw [List.take_succ_cons, List.take_succ_cons]
    exact .cons a (prd_take n b)
abbrev Row := List Atm × Bool
def lo (cs : List Row) (z : Str) : Bool := match cs.find? (fun c => mat c.1 z) with
  | some c => !c.2
  | none => false
theorem lo_hit {pre post : List Row} {c : Row} {z : Str} (h : ∀ c ∈ pre, mat c.1 z = false) (hc : mat c.1 z = true) : lo (pre ++ c :: post) z = !c.2 := by
  have e : pre.find? (fun c => mat c.1 z) = none := List.find?_eq_none.mpr fun x hx => by rw [h x hx]; exact Bool.false_ne_true
  unfold lo
  have e2 : (c :: post).find? (fun c => mat c.1 z) = some c := by simp [List.find?, hc]
  rw [List.find?_append, e, e2]
  rfl
theorem lo_miss {cs : List Row} {z : Str} (h : ∀ c ∈ cs, mat c.1 z = false) : lo cs z = false := by
  have e : cs.find? (fun c => mat c.1 z) = none := List.find?_eq_none.mpr fun x hx => by rw [h x hx]; exact Bool.false_ne_true
  unfold lo
  rw [e]
abbrev Pas (K : PySem.W.Frag) (H : Hp) (ps : List Addr) (cs : List Row) : Prop := Paired (fun p (c : Row) => PatA K H p c.1 c.2) ps cs
theorem pas_same {K : PySem.W.Frag} {H H' : Hp} {cs : List Row} (e : Same H H') : ∀ {ps : List Addr}, Pas K H ps cs → Pas K H' ps cs := by
  intro ps h
  induction h with
  | nil => exact .nil
  | cons a b ih => exact .cons (by obtain ⟨qs, h1, h2⟩ := a; exact ⟨qs, h1.same e, ats_same e h2⟩) ih
theorem prd_imp {α β : Type} {R S : α → β → Prop} (f : ∀ a b, R a b → S a b) : ∀ {xs : List α} {ys : List β}, Paired R xs ys → Paired S xs ys
  | _, _, .nil => .nil
  | _, _, .cons a b => .cons (f _ _ a) (prd_imp f b)
theorem for_prd {β : Type} {K : PySem.W.Frag} {g : TG} {t : TS} {D : Ends} {σ : L2.St} {H : Hp} {a : Addr} {as : List β} (RR : Hp → Addr → β → Prop) (Pv : List β → L2.St → Hp → Prop) (h0 : Pv [] σ H) (qs : List Addr) (hq : qs.length = as.length) (hl : ∀ pre σ H, Pv pre σ H → SqL K H a (qs.map V.ref) ∧ Paired (RR H) qs as)
    (hs : ∀ (pre : List β) (c : β) (post : List β) (T : Addr) σ H, as = pre ++ c :: post → Pv pre σ H → RR H T c → g (.ref T) σ H fun σ2 H2 => t { D with nx := Pv (pre ++ [c]), ct := Pv (pre ++ [c]), bk := D.nx } σ2 H2)
    (hd : ∀ σ H, Pv as σ H → D.nx σ H) : ForB (Itl K a) g t D σ H := by
  refine for_list (xs := qs.map V.ref) (fun i => Pv (as.take i)) (by simpa using h0) (fun i σ H _ p => (hl _ σ H p).1) (fun i x σ H hx p => ?_) (fun σ H p => ?_)
  · rw [List.getElem?_map] at hx
    obtain ⟨T, hT, rfl⟩ := Option.map_eq_some_iff.mp hx
    obtain ⟨T2, c, hT2, hc, q⟩ := prd_get (hl _ σ H p).2 i (by have := (List.getElem?_eq_some_iff.mp hT).1; omega)
    rw [hT] at hT2
    cases hT2
    have e2 := (List.getElem?_eq_some_iff.mp hc).2
    have e1 : as = as.take i ++ c :: as.drop (i + 1) := by rw [← e2, List.getElem_cons_drop, List.take_append_drop]
    rw [List.take_add_one, hc]
    exact hs _ c _ T σ H e1 p q
  · rw [List.length_map, hq, List.take_length] at p
    exact hd σ H p
def sp_leaves_out (K : PySem.W.Frag) : Sp := sp2 fun x y H Q => ∃ (L : Addr) (ps : List Addr) (cs : List Row) (z : Str), x = .ref L ∧ y = .str z ∧ SqL K H L (ps.map V.ref) ∧ Pas K H ps cs ∧ (∀ c ∈ cs, c.1.length ≤ 1000) ∧ z.length ≤ 1000 ∧
  ∀ H' : Hp, Same H H' → Q (.bl (lo cs z)) H'
abbrev CH : List Nat := ("-./0123456789ABCDEFGHIJKLMNOPQRSTUVWXYZ_abcdefghijklmnopqrstuvwxyz~" : Str).cps.toList
def sp_law_all (K : PySem.W.Frag) : Sp := sp0 fun H Q => Q (.str "-./0123456789ABCDEFGHIJKLMNOPQRSTUVWXYZ_abcdefghijklmnopqrstuvwxyz~") H
def sp_law_told (K : PySem.W.Frag) : Sp := sp2 fun a b H Q => ∃ x y : Bool, a = .bl x ∧ b = .bl y ∧ Q (.bl (x == y)) H
theorem kp_tup {K : PySem.W.Frag} {st sc r : Addr} {ns : List Int} {H H' : Hp} {xs : List V} (d : Dr K st sc ns H) (k : Kp st H H') (h : SqT K H r xs) : SqT K H' r xs := by
  obtain ⟨a, b, _, _, e⟩ := d.s
  rcases h with (h | ⟨o, h⟩) | h
  · exact .inl (.inl (k _ _ (fun z => by rw [z, e] at h; cases h) h))
  · exact .inl (.inr ⟨o, k _ _ (fun z => by rw [z, e] at h; cases h) h⟩)
  · exact .inr h
theorem kp_ats {K : PySem.W.Frag} {st sc : Addr} {ns : List Int} {H H' : Hp} {as : List Atm} (d : Dr K st sc ns H) (k : Kp st H H') : ∀ {qs : List Addr}, Ats K H qs as → Ats K H' qs as := by
  intro qs h
  induction h with
  | nil => exact .nil
  | cons a b ih => exact .cons (kp_tup d k a) ih
theorem prd_snoc {α β : Type} {R : α → β → Prop} : ∀ {xs : List α} {ys : List β} {x : α} {y : β}, Paired R xs ys → R x y → Paired R (xs ++ [x]) (ys ++ [y])
  | _, _, _, _, .nil, h => .cons h .nil
  | _, _, _, _, .cons a b, h => .cons a (prd_snoc b h)
theorem small {n m : Nat} (h : n ≤ m) (hm : m ≤ 1000000) : n < sizeLine := Nat.lt_of_le_of_lt (Nat.le_trans h hm) (by decide)
theorem at_lastR {qs : List Addr} {w : Addr} {n : Nat} (h : qs[n]? = some w) (hl : qs.length = n + 1) : atI (qs.map V.ref) (-1) = some (.ref w) := by
  have e2 := (List.getElem?_eq_some_iff.mp h).2
  have e1 : qs = qs.take n ++ w :: qs.drop (n + 1) := by rw [← e2, List.getElem_cons_drop, List.take_append_drop]
  rw [List.drop_eq_nil_of_le (by omega)] at e1
  rw [e1, List.map_append]
  exact atI_last _ _
def AtK (K : PySem.W.Frag) (st : Addr) (H : Hp) (r : Addr) (as : List Atm) : Prop := ∃ qs : List Addr, ∀ H2, Kp st H H2 → SqL K H2 r (qs.map V.ref) ∧ Ats K H2 qs as
theorem AtK.kp {K : PySem.W.Frag} {st r : Addr} {H H' : Hp} {as : List Atm} (h : AtK K st H r as) (k : Kp st H H') : AtK K st H' r as := by
  obtain ⟨qs, h⟩ := h
  exact ⟨qs, fun H2 k2 => h H2 (k.trans k2)⟩
theorem AtK.atl {K : PySem.W.Frag} {st r : Addr} {H : Hp} {as : List Atm} (h : AtK K st H r as) : AtL K H r as := by
  obtain ⟨qs, h⟩ := h
  obtain ⟨h1, h2⟩ := h H (Kp.refl _ _)
  exact ⟨qs, h1, h2⟩
theorem rep_app {as : List Atm} {c : Atm} {k : Nat} : rep (as ++ [c]) k = if k < as.length then rep as k else if k = as.length then c.2 else false := by
  unfold rep
  by_cases h : k < as.length
  · rw [if_pos h, List.getElem?_append_left h]
  · rw [if_neg h, List.getElem?_append_right (by omega)]
    by_cases h2 : k = as.length
    · rw [if_pos h2, h2, Nat.sub_self]; rfl
    · rw [if_neg h2, List.getElem?_eq_none (by simp; omega)]; rfl
theorem rep_over {as : List Atm} {k : Nat} (h : as.length ≤ k) : rep as k = false := by
  unfold rep
  rw [List.getElem?_eq_none h]; rfl
theorem two_app {as : List Atm} {c : Atm} (h : ∀ k, rep as k = true → rep as (k + 1) = false) (h2 : ∀ n, as.length = n + 1 → rep as n = true → c.2 = false) : ∀ k, rep (as ++ [c]) k = true → rep (as ++ [c]) (k + 1) = false := by
  intro k hk
  rw [rep_app] at hk ⊢
  by_cases h3 : k + 1 < as.length
  · rw [if_pos (by omega)] at hk
    rw [if_pos h3]; exact h k hk
  · rw [if_neg h3]
    by_cases h4 : k + 1 = as.length
    · rw [if_pos h4]
      rw [if_pos (by omega)] at hk
      exact h2 k h4.symm hk
    · rw [if_neg h4]
theorem at_ofN {l : List Nat} {z : Int} {j c : Nat} (e : z = (j : Int)) (h : l[j]? = some c) : atI l z = some c := by
  rw [e]
  exact atI_nat h
theorem pick_str {l : List Str} {d : Int} (h0 : 0 ≤ d) (h1 : d < l.length) : ∃ z, z ∈ l ∧ atI (l.map V.str) d = some (.str z) := by
  obtain ⟨j, hj⟩ : ∃ j : Nat, d = (j : Int) := ⟨d.toNat, by omega⟩
  have h2 : j < l.length := by omega
  exact ⟨l[j], List.getElem_mem h2, at_of (j := j) hj (by rw [List.getElem?_map, List.getElem?_eq_getElem h2]; rfl)⟩
theorem cut_pos {z : Str} {lo hi : Int} (h0 : 0 ≤ lo) (h1 : lo < z.length) (h2 : lo < hi) : 1 ≤ (cutS z (some lo) (some hi)).length := by
  show 1 ≤ (((z.cps.toList.drop (HT.sIx z.length 0 (some lo))).take (HT.sIx z.length z.length (some hi) - HT.sIx z.length 0 (some lo))).toArray).size
  rw [List.size_toArray, List.length_take, List.length_drop, Array.length_toList]
  obtain ⟨a, rfl⟩ : ∃ a : Nat, lo = (a : Int) := ⟨lo.toNat, by omega⟩
  obtain ⟨b, rfl⟩ : ∃ b : Nat, hi = (b : Int) := ⟨hi.toNat, by omega⟩
  rw [HT.sIx_nat, HT.sIx_nat]
  have e : z.cps.size = z.length := rfl
  rw [e]
  omega
theorem cut_top {z : Str} {n : Nat} : (cutS z none (some (n : Int))).length ≤ n := by
  show (((z.cps.toList.drop (HT.sIx z.length 0 none)).take (HT.sIx z.length z.length (some (n : Int)) - HT.sIx z.length 0 none)).toArray).size ≤ n
  rw [List.size_toArray, List.length_take, HT.sIx_nat, HT.sIx_none]
  omega
theorem join_len : ∀ ys : List Str, (PySem.Str.join ("" : Str) ys).length = (ys.map (fun x => x.length)).sum
  | [] => rfl
  | [x] => by
    show x.length = x.length + 0
    omega
  | x :: y :: r => by
    have ih := join_len (y :: r)
    show ((x ++ ("" : Str)) ++ PySem.Str.join ("" : Str) (y :: r)).length = x.length + ((y :: r).map (fun x => x.length)).sum
    rw [len_app, len_app, ih]
    rfl
theorem sum_ones : ∀ ys : List Str, (∀ y ∈ ys, y.length = 1) → (ys.map (fun x => x.length)).sum = ys.length
  | [], _ => rfl
  | x :: r, h => by
    have ih := sum_ones r fun y hy => h y (List.mem_cons_of_mem _ hy)
    have h1 := h x (List.mem_cons_self ..)
    show x.length + (r.map (fun x => x.length)).sum = r.length + 1
    omega
abbrev ones (l : List Nat) : List Str := l.map fun x => ⟨#[x]⟩
theorem ones_len (l : List Nat) : ((ones l).map (fun x => x.length)).sum = l.length := by
  rw [sum_ones _ fun y hy => by obtain ⟨x, _, rfl⟩ := List.mem_map.mp hy; rfl, List.length_map]
theorem ones_join (l : List Nat) : (Txt.join ("" : Str) (ones l)).length = l.length := by rw [TL.join_eq, join_len, ones_len]
theorem pre_le {α : Type} {l pre post : List α} {x : α} (e : l = pre ++ x :: post) : (pre ++ [x]).length ≤ l.length := by
  rw [e, List.length_append, List.length_append]
  simp
def pl0 : List Nat := CH.filter fun x : Nat => !decide ((⟨#[x]⟩ : Str) = ("/" : Str))
theorem pl0_len : pl0.length = 66 := by decide +kernel
/-- k % period == rest, or not -/
def per (p r : Int) (o : Bool) (i : Nat) : Bool := (decide ((0 + (i : Int)) % p = r)) != o
theorem per_some {p r : Int} {o : Bool} (h2 : 2 ≤ p) (h7 : p ≤ 7) (r0 : 0 ≤ r) (r1 : r < p) : ∃ i, i < 67 ∧ per p r o i = true := by
  obtain ⟨j, rfl⟩ : ∃ j : Nat, r = (j : Int) := ⟨r.toNat, by omega⟩
  cases o with
  | false =>
    refine ⟨j, by omega, ?_⟩
    unfold per
    rw [Int.zero_add, Int.emod_eq_of_lt (by omega) r1, decide_eq_true rfl]
    rfl
  | true =>
    by_cases h : j = 0
    · refine ⟨1, by omega, ?_⟩
      unfold per
      rw [Int.zero_add, show ((1 : Nat) : Int) % p = 1 from Int.emod_eq_of_lt (by decide) (by omega), decide_eq_false (by omega)]
      rfl
    · refine ⟨0, by omega, ?_⟩
      unfold per
      rw [Int.zero_add, show ((0 : Nat) : Int) % p = 0 from Int.zero_emod p, decide_eq_false (by omega)]
      rfl
theorem lc_rngP {K : PySem.W.Frag} {g : TG} {tt : TT} {te : TE} {vs : List Nat} {σ : L2.St} {Da : Addr} {H0 : Hp} {Q : VK} {lo : Int} {n : Nat} (hD : H0 Da = none) (hn : n ≤ 1000000) (p : Nat → Bool) (f : Nat → V)
    (hs : ∀ (i : Nat) (H2 : Hp) (C : VK) (E : Hp → Prop), i < n → Same H0 H2 → (p i = true → ∀ H3, Same H2 H3 → C (f i) H3) → (p i = false → ∀ H3, Same H2 H3 → E H3) →
      g (.int (lo + (i : Nat))) (wipe σ vs) H2 fun σ2 H2 => wipe σ2 vs = wipe σ vs ∧ tt σ2 H2 fun b H3 => if b = true then te σ2 H3 C else E H3)
    (hd : ∀ (H : Hp), Same H0 H → H Da = some (.lst (((List.range n).filter p).map f)) → Q (.ref Da) H) : LcB (Itr lo n) g tt te vs σ Da H0 Q := lc_filt (K := K) hD hn p f hs hd
theorem for_ats {K : PySem.W.Frag} {g : TG} {t : TS} {D : Ends} {σ : L2.St} {H : Hp} {a : Addr} {as : List Atm} (Pv : List Atm → L2.St → Hp → Prop) (h0 : Pv [] σ H) (qs : List Addr) (hq : qs.length = as.length) (hl : ∀ pre σ H, Pv pre σ H → SqL K H a (qs.map V.ref) ∧ Ats K H qs as)
    (hs : ∀ (pre : List Atm) (c : Atm) (post : List Atm) (T : Addr) σ H, as = pre ++ c :: post → Pv pre σ H → SqT K H T [.str c.1, .bl c.2] → g (.ref T) σ H fun σ2 H2 => t { D with nx := Pv (pre ++ [c]), ct := Pv (pre ++ [c]), bk := D.nx } σ2 H2)
    (hd : ∀ σ H, Pv as σ H → D.nx σ H) : ForB (Itl K a) g t D σ H := by
  refine for_list (xs := qs.map V.ref) (fun i => Pv (as.take i)) (by simpa using h0) (fun i σ H _ p => (hl _ σ H p).1) (fun i x σ H hx p => ?_) (fun σ H p => ?_)
  · rw [List.getElem?_map] at hx
    obtain ⟨T, hT, rfl⟩ := Option.map_eq_some_iff.mp hx
    obtain ⟨T2, c, hT2, hc, q⟩ := prd_get (hl _ σ H p).2 i (by have := (List.getElem?_eq_some_iff.mp hT).1; omega)
    rw [hT] at hT2
    cases hT2
    have e2 := (List.getElem?_eq_some_iff.mp hc).2
    have e1 : as = as.take i ++ c :: as.drop (i + 1) := by rw [← e2, List.getElem_cons_drop, List.take_append_drop]
    rw [List.take_add_one, hc]
    exact hs _ c _ T σ H e1 p q
  · rw [List.length_map, hq, List.take_length] at p
    exact hd σ H p
def goodC (c : Atm) : Prop := 1 ≤ c.1.length ∧ c.1.length ≤ 67
def sp_law_atom (K : PySem.W.Frag) : Sp := sp3 fun a b x H Q => ∃ (st sc : Addr) (ns : List Int) (f : Bool), a = .ref st ∧ b = .ref sc ∧ x = .bl f ∧ Dr K st sc ns H ∧
  ∀ (r : Addr) (c : Atm) (H' : Hp), goodC c → (f = true → c.2 = false) → Kp st H H' → Dr K st sc ns H' → SqT K H' r [.str c.1, .bl c.2] → Q (.ref r) H'
def noTwo (as : List Atm) : Prop := ∀ k, rep as k = true → rep as (k + 1) = false
/-- a list of atoms that stands in the heap -/
def AtP (K : PySem.W.Frag) (H : Hp) (r : Addr) (as : List Atm) : Prop := ∃ qs : List Addr, H r = some (.lst (qs.map V.ref)) ∧ Ats K H qs as
theorem AtP.ne {K : PySem.W.Frag} {st sc r : Addr} {ns : List Int} {H : Hp} {as : List Atm} (d : Dr K st sc ns H) (h : AtP K H r as) : r ≠ st := by
  obtain ⟨a, b, _, _, e⟩ := d.s
  obtain ⟨qs, h, _⟩ := h
  intro z
  rw [z, e] at h
  cases qs with
  | nil => simp at h
  | cons q qs => simp at h
theorem AtP.kp {K : PySem.W.Frag} {st sc r : Addr} {ns : List Int} {H H' : Hp} {as : List Atm} (d : Dr K st sc ns H) (h : AtP K H r as) (k : Kp st H H') : AtP K H' r as := by
  have n := h.ne d
  obtain ⟨qs, h1, h2⟩ := h
  exact ⟨qs, k _ _ n h1, kp_ats d k h2⟩
theorem AtP.atk {K : PySem.W.Frag} {st sc r : Addr} {ns : List Int} {H : Hp} {as : List Atm} (d : Dr K st sc ns H) (h : AtP K H r as) : AtK K st H r as := by
  have n := h.ne d
  obtain ⟨qs, h1, h2⟩ := h
  exact ⟨qs, fun H2 k2 => ⟨SqL.of (k2 _ _ n h1), kp_ats d k2 h2⟩⟩
theorem AtP.atl {K : PySem.W.Frag} {r : Addr} {H : Hp} {as : List Atm} (h : AtP K H r as) : AtL K H r as := by
  obtain ⟨qs, h1, h2⟩ := h
  exact ⟨qs, SqL.of h1, h2⟩
theorem AtP.updL {K : PySem.W.Frag} {r D : Addr} {H : Hp} {as : List Atm} {ys : List V} {o : HO} (h : AtP K H r as) (e : H D = some (.lst ys)) (n : r ≠ D) : AtP K (upd H D o) r as := by
  obtain ⟨qs, h1, h2⟩ := h
  exact ⟨qs, by rw [upd_ne n]; exact h1, ats_imp (tup_updL e) h2⟩
def sp_law_atoms (K : PySem.W.Frag) : Sp := sp3 fun a b x H Q => ∃ (st sc : Addr) (ns : List Int) (n : Int), a = .ref st ∧ b = .ref sc ∧ x = .int n ∧ 0 < n ∧ n ≤ 40 ∧ Dr K st sc ns H ∧
  ∀ (r : Addr) (as : List Atm) (H' : Hp), (∀ c ∈ as, goodC c) → noTwo as → 1 ≤ as.length → as.length ≤ 40 → Kp st H H' → Dr K st sc ns H' → H r = none → AtP K H' r as → Q (.ref r) H'
def sp_law_name (K : PySem.W.Frag) : Sp := sp3 fun a b x H Q => ∃ (st sc : Addr) (ns : List Int) (r : Addr) (as : List Atm), a = .ref st ∧ b = .ref sc ∧ x = .ref r ∧ Dr K st sc ns H ∧ AtK K st H r as ∧ as.length ≤ 40 ∧ (∀ c ∈ as, goodC c) ∧
  ∀ (z : Str) (H' : Hp), z.length ≤ 40 → Kp st H H' → Dr K st sc ns H' → Q (.str z) H'
/-- whether the first k atoms match the first j characters -/
def inA (as : List Atm) (z : List Nat) (k j : Nat) : Bool := match as[k]?, z[j]? with
  | some c, some u => decide (u ∈ c.1.cps.toList)
  | _, _ => false
def stepR (r : Bool) (up f : Nat → Bool) : Nat → Bool
  | 0 => r && up 0
  | j + 1 => if r = true then up (j + 1) || (stepR r up f j && f j) else up j && f j
def Tb (as : List Atm) (z : List Nat) : Nat → Nat → Bool
  | 0 => fun j => decide (j = 0)
  | k + 1 => stepR (rep as k) (Tb as z k) (inA as z k)
def rowTb (as : List Atm) (z : Str) (k : Nat) : List V := (List.range (z.cps.toList.length + 1)).map fun j => V.bl (Tb as z.cps.toList k j)
def Tab (K : PySem.W.Frag) (H : Hp) (r : Addr) (as : List Atm) (z : Str) (n : Nat) : Prop := ∃ ps : List Addr, H r = some (.lst (ps.map V.ref)) ∧ ps.length = n + 1 ∧ ∀ (k : Nat) (p : Addr), ps[k]? = some p → H p = some (.lst (rowTb as z k))
def sp_law_table (K : PySem.W.Frag) : Sp := sp2 fun x y H Q => ∃ (a : Addr) (as : List Atm) (z : Str), x = .ref a ∧ y = .str z ∧ AtL K H a as ∧ as.length ≤ 40 ∧ z.length ≤ 40 ∧
  ∀ (r : Addr) (H' : Hp), H r = none → Same H H' → Tab K H' r as z as.length → Q (.ref r) H'
/-! the places, by the table -/
def dueB (as : List Atm) (z : List Nat) (j k : Nat) : Bool := Tb as z k j || (decide (k < as.length) && (rep as k && Tb as z (k + 1) j))
theorem plc_congr {n : Nat} {f g : Nat → Bool} (h : ∀ k, k ≤ n → f k = g k) : plc n f = plc n g := by
  unfold plc
  rw [List.filter_congr fun k hk => h k (by have := List.mem_range.mp hk; omega)]
theorem rep_lt {as : List Atm} {k : Nat} (h : rep as k = true) : k < as.length := by
  by_cases q : k < as.length
  · exact q
  · rw [rep_over (by omega)] at h; cases h
theorem Tb_mono {as : List Atm} {z : List Nat} {k j : Nat} (h : rep as k = true) (q : Tb as z k j = true) : Tb as z (k + 1) j = true := by
  cases j with
  | zero =>
    show (rep as k && Tb as z k 0) = true
    rw [h, q]; rfl
  | succ j =>
    show (if rep as k = true then Tb as z k (j + 1) || _ else _) = true
    rw [if_pos h, q]; rfl
theorem Tb_rep {as : List Atm} {z : List Nat} {k j : Nat} (h : rep as k = true) : Tb as z (k + 1) (j + 1) = (Tb as z k (j + 1) || (Tb as z (k + 1) j && inA as z k j)) := by
  show (if rep as k = true then _ else _) = _
  rw [if_pos h]; rfl
theorem Tb_one {as : List Atm} {z : List Nat} {k j : Nat} (h : rep as k = false) : Tb as z (k + 1) (j + 1) = (Tb as z k j && inA as z k j) := by
  show (if rep as k = true then _ else _) = _
  rw [if_neg (by rw [h]; exact Bool.false_ne_true)]
theorem due_iff {as : List Atm} {z : List Nat} {j k : Nat} : dueB as z j k = true ↔ Tb as z k j = true ∨ (rep as k = true ∧ Tb as z (k + 1) j = true) := by
  unfold dueB
  rw [Bool.or_eq_true, Bool.and_eq_true, Bool.and_eq_true, decide_eq_true_eq]
  constructor
  · rintro (h | ⟨_, h1, h2⟩)
    · exact .inl h
    · exact .inr ⟨h1, h2⟩
  · rintro (h | ⟨h1, h2⟩)
    · exact .inl h
    · exact .inr ⟨rep_lt h1, h1, h2⟩
theorem start_due {as : List Atm} {z : List Nat} (h : noTwo as) : plc as.length (skp as [0]) = plc as.length (dueB as z 0) := by
  refine plc_congr fun k hk => Bool.eq_iff_iff.mpr ?_
  rw [skp_iff, due_iff, List.mem_singleton, List.mem_singleton]
  have e : ∀ k, Tb as z (k + 1) 0 = (rep as k && Tb as z k 0) := fun k => rfl
  match k with
  | 0 => exact ⟨fun _ => .inl rfl, fun _ => .inl rfl⟩
  | 1 =>
    rw [e 0]
    have e0 : Tb as z 0 0 = true := rfl
    rw [e0, Bool.and_true]
    constructor
    · rintro (q | ⟨_, _, q⟩)
      · exact absurd q (by decide)
      · exact .inl q
    · rintro (q | ⟨q1, q2⟩)
      · exact .inr ⟨by omega, by decide, q⟩
      · rw [e 1, Bool.and_eq_true, e 0, Bool.and_eq_true] at q2
        exact .inr ⟨by omega, by decide, q2.2.1⟩
  | k + 2 =>
    have no : Tb as z (k + 2) 0 = true → False := fun q => by
      rw [e (k + 1), Bool.and_eq_true, e k, Bool.and_eq_true] at q
      have := h k q.2.1
      rw [q.1] at this
      cases this
    constructor
    · rintro (q | ⟨_, q, _⟩) <;> omega
    · rintro (q | ⟨q1, q2⟩)
      · exact (no q).elim
      · rw [e (k + 2), Bool.and_eq_true] at q2
        exact (no q2.2).elim
theorem hs_iff {as : List Atm} {z : List Nat} {j u : Nat} (hu : z[j]? = some u) {k : Nat} : ((k : Nat) : Int) ∈ (plc as.length (dueB as z j)).flatMap (hit as u) ↔
    (rep as k = true ∧ Tb as z (k + 1) j = true ∧ inA as z k j = true) ∨ (∃ m, k = m + 1 ∧ rep as m = false ∧ Tb as z m j = true ∧ inA as z m j = true) := by
  have inm : ∀ {m : Nat} {c : Atm}, as[m]? = some c → inA as z m j = decide (u ∈ c.1.cps.toList) := fun h => by unfold inA; rw [h, hu]
  have rpm : ∀ {m : Nat} {c : Atm}, as[m]? = some c → rep as m = c.2 := fun h => by unfold rep; rw [h]; rfl
  have htm : ∀ {m : Nat} {c : Atm}, as[m]? = some c → hit as u ((m : Nat) : Int) = if u ∈ c.1.cps.toList then [if c.2 = true then ((m : Nat) : Int) else ((m : Nat) : Int) + 1] else [] := fun h => by unfold hit; rw [Int.toNat_natCast, h]
  have mem : ∀ m, m ≤ as.length → dueB as z j m = true → ((m : Nat) : Int) ∈ plc as.length (dueB as z j) := fun m hm hd => List.mem_map.mpr ⟨m, List.mem_filter.mpr ⟨List.mem_range.mpr (by omega), hd⟩, rfl⟩
  constructor
  · intro h
    obtain ⟨i, hi, hk⟩ := List.mem_flatMap.mp h
    obtain ⟨m, hm, rfl⟩ := List.mem_map.mp hi
    obtain ⟨hm1, hd⟩ := List.mem_filter.mp hm
    cases hc : as[m]? with
    | none =>
      unfold hit at hk
      rw [Int.toNat_natCast, hc] at hk
      cases hk
    | some c =>
      rw [htm hc] at hk
      by_cases hin : u ∈ c.1.cps.toList
      · rw [if_pos hin] at hk
        have hk := List.mem_singleton.mp hk
        have hi2 : inA as z m j = true := by rw [inm hc, decide_eq_true hin]
        cases h2 : c.2 with
        | true =>
          rw [h2, if_pos rfl] at hk
          have e : k = m := by omega
          subst e
          have hr : rep as k = true := by rw [rpm hc, h2]
          refine .inl ⟨hr, ?_, hi2⟩
          rcases due_iff.mp hd with q | q
          · exact Tb_mono hr q
          · exact q.2
        | false =>
          rw [h2, if_neg Bool.false_ne_true] at hk
          have hr : rep as m = false := by rw [rpm hc, h2]
          refine .inr ⟨m, by omega, hr, ?_, hi2⟩
          rcases due_iff.mp hd with q | q
          · exact q
          · rw [hr] at q; exact absurd q.1 Bool.false_ne_true
      · rw [if_neg hin] at hk
        cases hk
  · have get : ∀ m, inA as z m j = true → ∃ c, as[m]? = some c ∧ u ∈ c.1.cps.toList := fun m h => by
      cases hc : as[m]? with
      | none => unfold inA at h; rw [hc] at h; cases h
      | some c =>
        rw [inm hc] at h
        exact ⟨c, rfl, of_decide_eq_true h⟩
    rintro (⟨h1, h2, h3⟩ | ⟨m, rfl, h1, h2, h3⟩)
    · obtain ⟨c, hc, hin⟩ := get k h3
      refine List.mem_flatMap.mpr ⟨_, mem k (Nat.le_of_lt (rep_lt h1)) (due_iff.mpr (.inr ⟨h1, h2⟩)), ?_⟩
      rw [htm hc, if_pos hin, if_pos ((rpm hc).symm.trans h1)]
      exact List.mem_singleton.mpr rfl
    · obtain ⟨c, hc, hin⟩ := get m h3
      have hl := (List.getElem?_eq_some_iff.mp hc).1
      refine List.mem_flatMap.mpr ⟨_, mem m (Nat.le_of_lt hl) (due_iff.mpr (.inl h2)), ?_⟩
      rw [htm hc, if_pos hin, if_neg (by rw [← rpm hc, h1]; exact Bool.false_ne_true)]
      exact List.mem_singleton.mpr (by omega)
theorem step_due {as : List Atm} {z : List Nat} {j u : Nat} (h : noTwo as) (hu : z[j]? = some u) : stp as (plc as.length (dueB as z j)) u = plc as.length (dueB as z (j + 1)) := by
  unfold stp
  refine plc_congr fun k hk => Bool.eq_iff_iff.mpr ?_
  rw [skp_iff, hs_iff hu, due_iff]
  cases k with
  | zero =>
    have t0 : Tb as z 0 (j + 1) = false := rfl
    rw [t0]
    constructor
    · rintro ((⟨h1, h2, h3⟩ | ⟨m, hm, _⟩) | ⟨q, _⟩)
      · refine .inr ⟨h1, ?_⟩
        rw [Tb_rep h1, h2, h3]; simp
      · omega
      · omega
    · rintro (q | ⟨h1, h2⟩)
      · cases q
      · rw [Tb_rep h1, t0, Bool.false_or, Bool.and_eq_true] at h2
        exact .inl (.inl ⟨h1, h2.1, h2.2⟩)
  | succ k =>
    have e1 : (((k + 1 : Nat) : Int)) - 1 = ((k : Nat) : Int) := by omega
    have e2 : k + 1 - 1 = k := rfl
    rw [e1, e2, hs_iff hu]
    cases hr : rep as k with
    | false =>
      rw [Tb_one hr]
      constructor
      · rintro ((⟨h1, h2, h3⟩ | ⟨m, hm, q1, q2, q3⟩) | ⟨_, _, q⟩)
        · refine .inr ⟨h1, ?_⟩
          rw [Tb_rep h1, h2, h3]; simp
        · have e : m = k := by omega
          subst e
          exact .inl (by rw [q2, q3]; rfl)
        · cases q
      · rintro (q | ⟨h1, h2⟩)
        · rw [Bool.and_eq_true] at q
          exact .inl (.inr ⟨k, rfl, hr, q.1, q.2⟩)
        · rw [Tb_rep h1, Tb_one hr, Bool.or_eq_true, Bool.and_eq_true, Bool.and_eq_true] at h2
          rcases h2 with q | q
          · exact .inl (.inr ⟨k, rfl, hr, q.1, q.2⟩)
          · exact .inl (.inl ⟨h1, q.1, q.2⟩)
    | true =>
      have hn := h k hr
      rw [Tb_rep hr, hn]
      constructor
      · rintro ((⟨h1, _⟩ | ⟨m, hm, q1, _⟩) | ⟨_, q, _⟩)
        · cases h1
        · have e : m = k := by omega
          subst e
          rw [hr] at q1; cases q1
        · rcases q with ⟨_, q2, q3⟩ | ⟨m, rfl, q1, q2, q3⟩
          · exact .inl (by rw [q2, q3]; simp)
          · exact .inl (by rw [Tb_one q1, q2, q3]; simp)
      · rintro (q | ⟨q, _⟩)
        · rw [Bool.or_eq_true, Bool.and_eq_true] at q
          rcases q with q | q
          · cases k with
            | zero => cases q
            | succ m =>
              have hm : rep as m = false := by
                cases e : rep as m with
                | false => rfl
                | true => rw [h m e] at hr; cases hr
              rw [Tb_one hm, Bool.and_eq_true] at q
              exact .inr ⟨by omega, .inr ⟨m, rfl, hm, q.1, q.2⟩, rfl⟩
          · exact .inr ⟨by omega, .inl ⟨rfl, q.1, q.2⟩, rfl⟩
        · cases q
theorem fold_due {as : List Atm} {z : List Nat} (h : noTwo as) : ∀ j, j ≤ z.length → (z.take j).foldl (stp as) (st0 as) = plc as.length (dueB as z j)
  | 0, _ => start_due h
  | j + 1, hj => by
    have hu : z[j]? = some z[j] := List.getElem?_eq_getElem hj
    rw [List.take_add_one, hu]
    show (z.take j ++ [z[j]]).foldl (stp as) (st0 as) = _
    rw [List.foldl_append, fold_due h j (by omega)]
    exact step_due h hu
theorem mat_eq {as : List Atm} {z : Str} (h : noTwo as) : mat as z = Tb as z.cps.toList as.length z.cps.toList.length := by
  unfold mat
  have e := fold_due (z := z.cps.toList) h _ (Nat.le_refl _)
  rw [List.take_length] at e
  rw [e]
  refine Bool.eq_iff_iff.mpr ?_
  rw [decide_eq_true_eq]
  constructor
  · intro q
    obtain ⟨m, hm, em⟩ := List.mem_map.mp q
    have e2 : m = as.length := by omega
    subst e2
    rcases due_iff.mp (List.mem_filter.mp hm).2 with q | q
    · exact q
    · exact absurd (rep_lt q.1) (Nat.lt_irrefl _)
  · intro q
    exact List.mem_map.mpr ⟨_, List.mem_filter.mpr ⟨List.mem_range.mpr (Nat.lt_succ_self _), due_iff.mpr (.inl q)⟩, rfl⟩
def RowAt (K : PySem.W.Frag) (H : Hp) (p : Addr) (c : Row) : Prop := ∃ a : Addr, SqT K H p [.ref a, .bl c.2] ∧ AtL K H a c.1
theorem RowAt.same {K : PySem.W.Frag} {H H' : Hp} {p : Addr} {c : Row} (h : RowAt K H p c) (e : Same H H') : RowAt K H' p c := by
  obtain ⟨a, h1, h2⟩ := h
  exact ⟨a, same_tup e h1, h2.same e⟩
abbrev Ras (K : PySem.W.Frag) (H : Hp) (ps : List Addr) (cs : List Row) : Prop := Paired (RowAt K H) ps cs
theorem ras_same {K : PySem.W.Frag} {H H' : Hp} {cs : List Row} {ps : List Addr} (e : Same H H') (h : Ras K H ps cs) : Ras K H' ps cs := prd_imp (fun _ _ q => q.same e) h
def okR (cs : List Row) : Prop := cs.length ≤ 100 ∧ ∀ c ∈ cs, c.1.length ≤ 40 ∧ noTwo c.1
def Rws (K : PySem.W.Frag) (H : Hp) (R : Addr) (cs : List Row) : Prop := ∃ ps : List Addr, SqL K H R (ps.map V.ref) ∧ Ras K H ps cs
def sp_law_due (K : PySem.W.Frag) : Sp := sp2 fun x y H Q => ∃ (R : Addr) (cs : List Row) (z : Str), x = .ref R ∧ y = .str z ∧ Rws K H R cs ∧ okR cs ∧ z.length ≤ 40 ∧ ∀ H' : Hp, Same H H' → Q (.bl (lo cs z)) H'
theorem pas_updL {K : PySem.W.Frag} {H : Hp} {g : Addr} {ys : List V} {o : HO} {ps : List Addr} {cs : List Row} (e : H g = some (.lst ys)) (h : Pas K H ps cs) : Pas K (upd H g o) ps cs :=
  prd_imp (fun _ _ q => by obtain ⟨qs, h1, h2⟩ := q; exact ⟨qs, pat_updL e h1, ats_imp (tup_updL e) h2⟩) h
def sp_law_kept (K : PySem.W.Frag) : Sp := sp2 fun x y H Q => ∃ (R : Addr) (cs : List Row) (z : Str), x = .ref R ∧ y = .str z ∧ Rws K H R cs ∧ okR cs ∧ z.length ≤ 40 ∧ ∀ H' : Hp, Same H H' → Q (.bl true) H'
theorem AtP.same {K : PySem.W.Frag} {r : Addr} {H H' : Hp} {as : List Atm} (h : AtP K H r as) (e : Same H H') : AtP K H' r as := by
  obtain ⟨qs, h1, h2⟩ := h
  exact ⟨qs, e _ _ h1, ats_same e h2⟩
def RowP (K : PySem.W.Frag) (D : Addr) (H : Hp) (p : Addr) (c : Row) : Prop := ∃ a : Addr, a ≠ D ∧ H p = some (.tup [.ref a, .bl c.2]) ∧ AtP K H a c.1
theorem RowP.kp {K : PySem.W.Frag} {st sc D p : Addr} {ns : List Int} {H H' : Hp} {c : Row} (d : Dr K st sc ns H) (h : RowP K D H p c) (k : Kp st H H') : RowP K D H' p c := by
  obtain ⟨x, y, _, _, e⟩ := d.s
  obtain ⟨a, h1, h2, h3⟩ := h
  exact ⟨a, h1, k _ _ (fun z => by rw [z, e] at h2; cases h2) h2, h3.kp d k⟩
theorem RowP.same {K : PySem.W.Frag} {D p : Addr} {H H' : Hp} {c : Row} (h : RowP K D H p c) (e : Same H H') : RowP K D H' p c := by
  obtain ⟨a, h1, h2, h3⟩ := h
  exact ⟨a, h1, e _ _ h2, h3.same e⟩
theorem RowP.upd {K : PySem.W.Frag} {D p : Addr} {H : Hp} {c : Row} {ys : List V} {o : HO} (h : RowP K D H p c) (e : H D = some (.lst ys)) : RowP K D (upd H D o) p c := by
  obtain ⟨a, h1, h2, h3⟩ := h
  exact ⟨a, h1, by rw [upd_ne (fun z => by rw [z, e] at h2; cases h2)]; exact h2, h3.updL e h1⟩
theorem RowP.at {K : PySem.W.Frag} {D p : Addr} {H : Hp} {c : Row} (h : RowP K D H p c) : RowAt K H p c := by
  obtain ⟨a, h1, h2, h3⟩ := h
  exact ⟨a, SqT.of h2, h3.atl⟩
abbrev whole : Row := ([("-./0123456789ABCDEFGHIJKLMNOPQRSTUVWXYZ_abcdefghijklmnopqrstuvwxyz~", true)], false)
theorem e_tRevL {K : PySem.W.Frag} {te : TE} {σ : L2.St} {H : Hp} {Q : VK} (q : te σ H fun x H1 => ∃ a xs, x = .ref a ∧ SqL K H1 a xs ∧ ∀ p, H1 p = none → Q (.ref p) (upd H1 p (.lst xs.reverse))) : tRevL K te σ H Q := q
def okC (cs : List Row) : Prop := ∀ c ∈ cs, c.1.length ≤ 40 ∧ noTwo c.1 ∧ ∀ x ∈ c.1, goodC x
theorem prd_rev {α β : Type} {R : α → β → Prop} : ∀ {xs : List α} {ys : List β}, Paired R xs ys → Paired R xs.reverse ys.reverse
  | _, _, .nil => .nil
  | _, _, .cons a b => by
    rw [List.reverse_cons, List.reverse_cons]
    exact prd_snoc (prd_rev b) a
def sp_law (K : PySem.W.Frag) : Sp := sp1 fun a H Q => ∃ (sa : Addr) (ns : List Int), a = .ref sa ∧ SqL K H sa (ns.map V.int) ∧ ns.length ≤ 63 ∧ ∀ H', Q (.bl true) H'
local macro_rules | `(tactic| walk_at "dr") => `(tactic| first
  | assumption
  | exact Dr.same (by assumption) (same_new (by assumption))
  | exact Dr.same (Dr.same (by assumption) (same_new (by assumption))) (same_new (by assumption)))
local macro_rules | `(tactic| walk_at "ar") => `(tactic| first | omega | (simp only [List.length_cons, List.length_nil, List.length_map, List.length_append]; omega) | (simp only [List.length_cons, List.length_nil, List.length_map, List.length_append] at *; omega) | decide | assumption)
local macro_rules | `(tactic| walk_at "sl") => `(tactic| first
  | exact Dr.seq (by assumption)
  | assumption
  | exact SqL.of (by assumption)
  | exact SqL.of upd_same)
local macro_rules | `(tactic| walk_at "slt") => `(tactic| first
  | assumption
  | exact SqT.of (by assumption)
  | exact SqT.of upd_same)
local macro_rules | `(tactic| walk_at "size") => `(tactic| first
  | assumption
  | (refine sz_of ?_; first | decide | omega | (simp only [List.length_cons, List.length_nil, List.length_map, List.length_append] at *; omega)))
local macro_rules | `(tactic| walk_at "seq") => `(tactic| first
  | assumption
  | exact .inl (Dr.seq (by assumption))
  | exact .inl (by assumption)
  | exact .inl (SqL.of (by assumption))
  | exact .inr (by assumption)
  | exact .inr (SqT.of (by assumption)))
local macro_rules | `(tactic| walk_at "cond") => `(tactic| first
  | ((with_reducible show CMul _ _); first | exact .inr ⟨by decide, by decide⟩ | exact .inl ⟨by decide, by decide⟩ | exact .inr ⟨by omega, by omega⟩ | exact .inl ⟨by omega, by omega⟩)
  | ((with_reducible show CDivW _ _); first | exact ⟨by decide, by decide⟩ | exact wide_div (b := 60) (by omega) (by omega) (by decide) (by decide))
  | ((with_reducible show CDiv _ _); first | exact ⟨by decide, by decide⟩ | exact ⟨by omega, by omega⟩)
  | ((with_reducible show CPow _ _); exact ⟨by decide, by decide, by decide⟩)
  | (show (0 : Int) < _; first | decide | omega)
  | (show (0 : Int) ≤ _; first | decide | omega))
local macro_rules | `(tactic| walk_at "st1") => `(tactic| first
  | ((with_reducible show tVar _ _ _ _); refine e_var rfl ?_)
  | ((with_reducible show tC _ _ _ _); refine e_c ?_)
  | ((with_reducible show tOp _ _ _ _ _ _); refine e_op ?_)
  | ((with_reducible show rI0 _ _ _ _ _); refine e_I0 ?_)
  | ((with_reducible show rI _ _ _ _ _ _); refine e_I (by walk_at "cond") ?_)
  | ((with_reducible show rEq (V.int _) (V.int _) _ _); refine e_eqI ?_)
  | ((with_reducible show rNe (V.int _) (V.int _) _ _); refine e_neI ?_)
  | ((with_reducible show rEq (V.str _) (V.str _) _ _); refine e_eqS ?_)
  | ((with_reducible show rNe (V.str _) (V.str _) _ _); refine e_neS ?_)
  | ((with_reducible show rEq (V.bl _) (V.bl _) _ _); refine e_eqB ?_)
  | ((with_reducible show rNe (V.bl _) (V.bl _) _ _); refine e_neB ?_)
  | ((with_reducible show rEq _ _ _ _); refine e_eq rfl ?_)
  | ((with_reducible show rNe _ _ _ _); refine e_ne rfl ?_)
  | ((with_reducible show tTest _ _ _ _); refine e_test ?_)
  | ((with_reducible show tB _ _ _ _); refine e_B ?_)
  | ((with_reducible show ∃ k, V.bl _ = V.bl k ∧ _); refine e_ex ?_)
  | ((with_reducible show ∃ k, V.int _ = V.int k ∧ _); refine e_exI ?_)
  | ((with_reducible show tAnd _ _ _ _ _); refine e_and ?_)
  | ((with_reducible show tOr _ _ _ _ _); refine e_or ?_)
  | ((with_reducible show tNot _ _ _ _); refine e_not ?_)
  | ((with_reducible show tYes _ _ _); refine e_yes ?_))
local macro_rules | `(tactic| walk_at "st2") => `(tactic| first
  | ((with_reducible show tAndV _ _ _ _ _); refine e_andV ?_)
  | ((with_reducible show tOrV _ _ _ _ _); refine e_orV ?_)
  | ((with_reducible show tNotV _ _ _ _); refine e_notV ?_)
  | ((with_reducible show tIf _ _ _ _ _ _); refine e_if ?_)
  | ((with_reducible show tChain _ _ _ _ _ _ _ _); refine e_chain ?_)
  | ((with_reducible show tSeq _ _ _ _ _); refine e_seq ?_)
  | ((with_reducible show tNext _ _ _); refine e_next ?_)
  | ((with_reducible show tBreak _ _ _); refine e_break ?_)
  | ((with_reducible show tCont _ _ _); refine e_cont ?_)
  | ((with_reducible show tDrop _ _ _ _); refine e_drop ?_)
  | ((with_reducible show tRet _ _ _ _); refine e_ret ?_)
  | ((with_reducible show tRetN _ _ _); refine e_retN ?_)
  | ((with_reducible show tIfS _ _ _ _ _ _); refine e_ifS ?_)
  | ((with_reducible show tAsg _ _ _ _ _); refine e_asg ?_)
  | ((with_reducible show gName _ _ _ _ _); refine e_name ?_)
  | ((with_reducible show gSub _ _ _ _ _ _ _); refine e_sub ?_)
  | ((with_reducible show tNil _ _ _); refine e_nil ?_)
  | ((with_reducible show tCons _ _ _ _ _); refine e_cons ?_)
  | ((with_reducible show tCall _ _ _ _ _ _ _); refine e_call ?_)
  | ((with_reducible show tCB _ _ _ _ _); refine e_CB ?_)
  | ((with_reducible show tTup _ _ _ _); refine e_tup ?_)
  | ((with_reducible show tLst _ _ _ _); refine e_lst ?_)
  | ((with_reducible show tSl _ _ _ _ _ _ _); refine e_sl ?_)
  | ((with_reducible show tNoPart _ _ _); refine e_noP ?_)
  | ((with_reducible show tPart _ _ _ _); refine e_part ?_)
  | ((with_reducible show tBM _ _ _ _ _ _ _ _); refine e_bm ?_)
  | ((with_reducible show tFor _ _ _ _ _ _); refine e_for ?_)
  | ((with_reducible show iList _ _ _ _ _); refine e_iList ?_)
  | ((with_reducible show iTup _ _ _ _ _); refine e_iTup ?_)
  | ((with_reducible show iStr _ _ _ _); refine e_iStr ?_)
  | ((with_reducible show iRng1 _ _ _ _); refine e_iRng1 ?_)
  | ((with_reducible show iRng2 _ _ _ _); refine e_iRng2 ?_)
  | ((with_reducible show (∃ i', [V.int _] = [V.int i'] ∧ _) ∨ ∃ k, [V.int _] = [V.bl k] ∧ _); refine Or.inl ⟨_, rfl, ?_⟩)
  | ((with_reducible show ∃ p ys, [V.ref _] = [V.ref p] ∧ (SqL _ _ p ys ∨ SqT _ _ p ys) ∧ _); refine ⟨_, _, rfl, (by walk_at "seq"), ?_⟩)
  | ((with_reducible show tLc _ _ _ _ _ _ _ _); refine e_lc ?_)
  | ((with_reducible show tM0 _ _ _ _ _); refine e_m0 ?_)
  | ((with_reducible show tM1 _ _ _ _ _ _); refine e_m1 ?_)
  | ((with_reducible show ∃ k, V.str _ = V.str k ∧ _); refine e_exS ?_)
  | ((with_reducible show ∃ k, V.ref _ = V.ref k ∧ (∃ xs, SqL _ _ k xs) ∧ _); refine e_exR (by walk_at "sl") ?_)
  | ((with_reducible show ∃ k, V.ref _ = V.ref k ∧ (∃ xs, SqT _ _ k xs) ∧ _); refine e_exRT (by walk_at "slt") ?_)
  | ((with_reducible show ∃ j, [V.int _] = [V.int j] ∧ _ ≤ j ∧ j < _ ∧ _); refine e_rng1 (by omega) (by omega) ?_)
  | ((with_reducible show ∃ i j, [V.int _, V.int _] = [V.int i, V.int j] ∧ _ ∧ _); refine e_rng2 (by omega) ?_)
  | ((with_reducible show ∃ z', [V.str _] = [V.str z'] ∧ z'.length ≤ sizeLine ∧ _); refine ⟨_, rfl, (by walk_at "size"), ?_⟩)
  | ((with_reducible show (∃ a, V.str _ = V.str a) ∧ _); refine ⟨⟨_, rfl⟩, ?_⟩)
  | ((with_reducible show rSlS (V.str _) _ _ _ _); refine e_slS (by walk_at "size") ?_)
  | ((with_reducible show wipe _ _ = wipe _ _ ∧ _); refine ⟨rfl, ?_⟩)
  | ((with_reducible show List.length _ ≤ sizeLine ∧ ∀ p, _); refine ⟨(by walk_at "size"), fun p hp => ?_⟩)
  | ((with_reducible show rIsi _ _ _ _); first | refine isi_bb ?_ | refine isi_ib ?_ | refine isi_bi ?_ | refine isi_ii ?_ | refine isi_tt (by assumption) ?_ | refine isi_ll (by assumption) ?_)
  | ((with_reducible show spDraw _ _ _ _ _); refine ⟨_, _, _, rfl, _, _, _, _, rfl, rfl, rfl, (by walk_at "dr"), (by walk_at "ar"), (by walk_at "ar"), ?_⟩)
  | ((with_reducible show tUn _ _ _ _ _); refine e_un ?_)
  | ((with_reducible show rU _ (V.int _) _ _); refine e_U ?_)
  | ((with_reducible show ∃ i, [V.int _] = [V.int i] ∧ _); refine ⟨_, rfl, ?_⟩)
  | ((with_reducible show gTup _ _ _ _ _ _ _); refine ⟨_, _, rfl, (by walk_at "slt"), rfl, ?_⟩)
  | ((with_reducible show gCons _ _ _ _ _ _); refine ⟨_, _, rfl, ?_⟩)
  | ((with_reducible show gNil _ _ _ _); refine ⟨rfl, ?_⟩)
  | ((with_reducible show tAug _ _ _ _ _ _); refine e_aug rfl ?_)
  | ((with_reducible show if true = true then _ else _); refine i_T ?_)
  | ((with_reducible show if false = true then _ else _); refine i_F ?_))
local macro_rules | `(tactic| walk_at "st") => `(tactic| first | walk_at "st1" | walk_at "st2" | (dsimp only [List.append_nil, List.nil_append, List.cons_append, Bool.not_true, Bool.not_false]))
local macro_rules | `(tactic| walk_at "go") => `(tactic| repeat walk_at "st")
local macro_rules | `(tactic| walk_at "st") => `(tactic| first
  | ((with_reducible show iRevR _ _ _ _); refine e_iRevR ?_)
  | ((with_reducible show tRg1 _ _ _ _); refine e_rg1 ?_)
  | ((with_reducible show tRg2 _ _ _ _ _); refine e_rg2 ?_)
  | ((with_reducible show iEnum _ _ _ _ _); refine e_iEnum ?_)
  | ((with_reducible show iEnumT _ _ _ _ _); refine e_iEnumT ?_)
  | ((with_reducible show iRng3 _ _ _ _); refine e_iRng3 ?_)
  | ((with_reducible show ∃ p ys, [V.ref _] = [V.ref p] ∧ SqL _ _ p ys ∧ _); refine ⟨_, _, rfl, (by walk_at "sl"), ?_⟩)
  | ((with_reducible show ∃ p ys, [V.ref _] = [V.ref p] ∧ SqT _ _ p ys ∧ _); refine ⟨_, _, rfl, (by walk_at "slt"), ?_⟩)
  | ((with_reducible show tyV _ "list" (V.ref _) _ ∧ _); refine ⟨.inl ⟨rfl, _, (by walk_at "sl")⟩, ?_⟩)
  | ((with_reducible show ∃ a b, V.bl _ = V.bl a ∧ V.bl _ = V.bl b ∧ _); refine ⟨_, _, rfl, rfl, ?_⟩)
  | ((with_reducible show ∃ c, V.bl _ = V.bl c ∧ _); refine ⟨_, rfl, ?_⟩)
  | ((with_reducible show if (!true) = true then _ else _); refine i_F ?_)
  | ((with_reducible show if (!false) = true then _ else _); refine i_T ?_))
local macro_rules | `(tactic| walk_at "st") => `(tactic| ((with_reducible show sp_law_all _ _ _ _ _); refine ⟨rfl, ?_⟩))
local macro_rules | `(tactic| walk_at "st") => `(tactic| first
  | ((with_reducible show tRevL _ _ _ _ _); refine e_tRevL ?_)
  | ((with_reducible show tMake _ _ _ _ _ _ _ _); refine e_tMake ?_)
  | ((with_reducible show tMakeN _ _ _ _ _ _ _ _ _ _ _); refine e_tMakeN ?_)
  | ((with_reducible show tFld _ _ _ _ _ _); refine e_tFld ?_)
  | ((with_reducible show sFld _ _ _ _ _ _ _); refine e_sFld ?_))
section
variable {P : Program} {w : World} {K : PySem.W.Frag} {mg : Str → Option Value} {base : Heap}
theorem ok_Pattern___init__ (T : Txt K mg)   {f : Addr} {fd : FuncData} (F : FunD K "__init__" "Pattern.__init__" (defArgs s_Pattern___init__) (defBody s_Pattern___init__) (defScope s_Pattern___init__) [.bl false] [] f fd) : FnOk P w K mg base CX0 1 f fd ["self", "atoms", "negated"] (sp_Pattern___init__ K) := by
  refine F.ok sc_Pattern___init__ (fun vs H Q E h => ?_) (fun cdv A outer s H vs Q E hr h => ?_)
  · obtain ⟨_, _, _, rfl, _⟩ := h
    rfl
  · have S := sc_Pattern___init__
    refine ⟨_, PSs.nox (pss_cons (ps_fld (pv 0) (pe_callTy call_tuple_of (by rfl) T.f_tuple (by first | rfl | decide +kernel) (pa_cons (pv 1) pa_nil)) rfl)
    (pss_one (ps_fld (pv 0) (pv 2) rfl))), ?_⟩
    try dsimp only [cxOf, Cx.nox]
    obtain ⟨_, _, _, rfl, a, p, dx, vs, neg, rfl, rfl, rfl, ha, hp, k⟩ := h
    walk_at "go"
    have c1 := T.cl_Pattern
    have c2 := T.no_Pattern_atoms
    have c3 := T.no_Pattern_negated
    rcases hp with hp | hp
    · refine ⟨p, vs, rfl, .inl ⟨hp, fun l hl => ?_⟩⟩
      have nal : a ≠ l := fun q => by
        rw [← q, ha] at hl
        cases hl
      walk_at "go"
      refine ⟨a, _, dx, [], rfl, by rw [upd_ne nal]; exact ha, c1, c2, by decide, ?_⟩
      walk_at "go"
      refine ⟨a, _, dx, _, rfl, upd_same, c1, c3, Nat.lt_of_le_of_lt (Nat.le_refl 1) (by decide), ?_⟩
      refine k _ (fun b hb o e => ?_) ⟨dx, l, _, upd_same, by rw [lookup_putF, if_neg (by decide), lookup_putF, if_pos rfl], by rw [lookup_putF, if_pos rfl], ?_⟩
      · rw [upd_ne hb, upd_ne hb]
        exact same_new hl _ _ e
      · rw [upd_ne (Ne.symm nal), upd_ne (Ne.symm nal)]; exact upd_same
    · have nap : a ≠ p := fun q => by
        rw [q, hp] at ha
        cases ha
      refine ⟨p, vs, rfl, .inr ⟨SqT.of hp, ?_⟩⟩
      walk_at "go"
      refine ⟨a, _, dx, [], rfl, ha, c1, c2, by decide, ?_⟩
      walk_at "go"
      refine ⟨a, _, dx, _, rfl, upd_same, c1, c3, Nat.lt_of_le_of_lt (Nat.le_refl 1) (by decide), ?_⟩
      refine k _ (fun b hb o e => ?_) ⟨dx, p, _, upd_same, by rw [lookup_putF, if_neg (by decide), lookup_putF, if_pos rfl], by rw [lookup_putF, if_pos rfl], ?_⟩
      · rw [upd_ne hb, upd_ne hb]
        exact e
      · rw [upd_ne (Ne.symm nap), upd_ne (Ne.symm nap)]; exact hp
theorem ok_Pattern___eq__ (T : Txt K mg)   {f : Addr} {fd : FuncData} (F : FunD K "__eq__" "Pattern.__eq__" (defArgs s_Pattern___eq__) (defBody s_Pattern___eq__) (defScope s_Pattern___eq__) [] [] f fd) : FnOk P w K mg base CX0 1 f fd ["self", "other"] (sp_Pattern___eq__ K) := by
  refine F.ok sc_Pattern___eq__ (fun vs H Q E h => ?_) (fun cdv A outer s H vs Q E hr h => ?_)
  · obtain ⟨_, _, rfl, _⟩ := h
    rfl
  · have S := sc_Pattern___eq__
    refine ⟨_, PSs.nox (pss_one (ps_ret (pe_and (pe_callB call_isi (by rfl) T.f_isinstance (by first | rfl | decide +kernel) (pa_cons (pv 1) (pa_cons (pe_glob (v := V.ref (He.ga K "Pattern")) (by rfl) T.g_Pattern rfl) pa_nil))) (pe_and (pe_cmpR (op_eqP hr.units) (pe_fld (pv 0) rfl) (pe_fld (pv 1) rfl) (nomark _)) (pe_one (pe_cmpR op_eq (pe_fld (pv 0) rfl) (pe_fld (pv 1) rfl) (nomark _))))))), ?_⟩
    try dsimp only [cxOf, Cx.nox]
    obtain ⟨_, _, rfl, a, as, neg, rfl, ⟨qs, ⟨dx, t, fs, ha, f1, f2, ht⟩, hA⟩, hy⟩ := h
    have c1 := T.cl_Pattern
    have c2 := T.no_Pattern_atoms
    have c3 := T.no_Pattern_negated
    have ct := T.ct_Pattern
    rcases hy with ⟨b, bs, neg2, rfl, ⟨rs, ⟨dy, u, gs, hb, g1, g2, hu⟩, hB⟩, k⟩ | ⟨p, ys, rfl, hp, k⟩
    · walk_at "go"
      refine ⟨.ref b, .ref _, _, _, true, rfl, .own _, .base (.ins hb c1 ct.ha ct.hn ct.htk ct.hm), ct.own, ?_⟩
      walk_at "go"
      refine ⟨a, _, dx, _, _, rfl, ha, c1, c2, f1, ?_⟩
      walk_at "go"
      refine ⟨b, _, dy, _, _, rfl, hb, c1, c2, g1, ?_⟩
      refine e_eqAT ⟨qs, SqT.of ht, hA⟩ ⟨rs, SqT.of hu, hB⟩ ?_
      walk_at "go"
      refine i_b (fun h1 => ?_) (fun h1 => ?_)
      · walk_at "go"
        refine ⟨a, _, dx, _, _, rfl, ha, c1, c3, f2, ?_⟩
        walk_at "go"
        refine ⟨b, _, dy, _, _, rfl, hb, c1, c3, g2, ?_⟩
        walk_at "go"
        rw [h1, Bool.true_and] at k
        exact k
      · walk_at "go"
        rw [h1, Bool.false_and] at k
        exact k
    · walk_at "go"
      refine ⟨.ref p, .ref _, _, _, false, rfl, .own _, .base (.tup hp), ct.tup, ?_⟩
      walk_at "go"
      exact k
theorem ok_matches (T : Txt K mg)  (c_start_places : Cal P w K mg base 2 "start_places" (sp_start_places K)) (c_next_places : Cal P w K mg base 2 "next_places" (sp_next_places K)) {f : Addr} {fd : FuncData} (F : FnP K "matches" s_matches f fd) : FnOk P w K mg base CX0 3 f fd ["pattern", "name"] (sp_matches K) := by
  refine F.ok sc_matches (fun vs H Q E h => ?_) (fun cdv A outer s H vs Q E hr h => ?_)
  · obtain ⟨_, _, rfl, _⟩ := h
    rfl
  · have S := sc_matches
    refine ⟨_, PSs.nox (pss_cons (ps_set (i := 2) S.nd rfl (by first | exact .inl rfl | exact .inr rfl) (pe_c c_start_places hr (by decide) (by rfl) (pa_cons (pv 0) pa_nil)))
    (pss_cons (ps_for PassesOwn.never rfl (pi_str (pv 1)) (pg_name (i := 3) S.nd rfl (by first | exact .inl rfl | exact .inr rfl))
    (pss_one (ps_set (i := 2) S.nd rfl (by first | exact .inl rfl | exact .inr rfl) (pe_c c_next_places hr (by decide) (by rfl) (pa_cons (pv 0) (pa_cons (pv 2) (pa_cons (pv 3) pa_nil)))))))
    (pss_one (ps_ret (pe_cmpR op_in_seq (pe_callB call_len_seq (by rfl) T.f_len (by first | rfl | decide +kernel) (pa_cons (pe_fld (pv 0) rfl) pa_nil)) (pv 2) (by first | rfl | with_unfolding_all rfl)))))), ?_⟩
    try dsimp only [cxOf, Cx.nox]
    obtain ⟨_, _, rfl, a, qs, as, neg, z, rfl, rfl, hp, hA, hl, hz, k⟩ := h
    have c1 := T.cl_Pattern
    have c2 := T.no_Pattern_atoms
    walk_at "go"
    refine ⟨_, rfl, a, qs, as, neg, rfl, hp, hA, hl, fun r0 H1 s1 hr0 => ?_⟩
    walk_at "go"
    refine for_str (fun pre σ H4 => ∃ (r : Addr) (v : Option V) (m : Nat → Bool), σ = [some (.ref a), some (.str z), some (.ref r), v] ∧ Same H H4 ∧ pre.foldl (stp as) (st0 as) = plc as.length m ∧ SqT K H4 r ((plc as.length m).map V.int)) ⟨r0, _, skp as [0], rfl, s1, rfl, SqT.of hr0⟩ (fun pre c post σ H4 e q => ?_) (fun σ H4 q => ?_)
    · obtain ⟨r, v, m, rfl, s4, em, er⟩ := q
      walk_at "go"
      refine ⟨_, _, _, rfl, a, r, qs, as, neg, plc as.length m, c, rfl, rfl, rfl, hp.same s4, ats_same s4 hA, hl, er, fun x hx => plc_rg hx, Nat.le_trans (plc_len _ _) (by omega), fun r' H' s5 h5 => ?_⟩
      walk_at "go"
      exact ⟨r', _, _, rfl, s4.trans s5, by rw [List.foldl_append, em]; rfl, SqT.of h5⟩
    · obtain ⟨r, v, m, rfl, s4, em, er⟩ := q
      obtain ⟨dx, t, fs, h1, h2, h3, h4⟩ := hp.same s4
      walk_at "go"
      refine ⟨a, _, dx, _, _, rfl, h1, c1, c2, h2, ?_⟩
      walk_at "go"
      refine ⟨r, _, rfl, .inr er, rfl, flat_ints _, ?_⟩
      have e9 : (if false then !inV (V.int ((qs.map V.ref).length : Nat)) ((plc as.length m).map V.int) else inV (V.int ((qs.map V.ref).length : Nat)) ((plc as.length m).map V.int)) = mat as z := by
        rw [if_neg Bool.false_ne_true, inV_ints, List.length_map]
        unfold mat
        rw [em, hA.length]
      rw [e9]
      exact k H4 s4
theorem ok_leaves_out (T : Txt K mg)  (c_matches : Cal P w K mg base 3 "matches" (sp_matches K)) {f : Addr} {fd : FuncData} (F : FnP K "leaves_out" s_leaves_out f fd) : FnOk P w K mg base CX0 4 f fd ["patterns", "name"] (sp_leaves_out K) := by
  refine F.ok sc_leaves_out (fun vs H Q E h => ?_) (fun cdv A outer s H vs Q E hr h => ?_)
  · obtain ⟨_, _, rfl, _⟩ := h
    rfl
  · have S := sc_leaves_out
    refine ⟨_, PSs.nox (pss_cons (ps_for PassesOwn.never rfl (pi_list (pv 0)) (pg_name (i := 2) S.nd rfl (by first | exact .inl rfl | exact .inr rfl))
    (pss_one (ps_if (pt_val (pe_c c_matches hr (by decide) (by rfl) (pa_cons (pv 2) (pa_cons (pv 1) pa_nil))))
      (pss_one (ps_ret (pe_not (pe_fld (pv 2) rfl))))
      pss_nil)))
    (pss_one (ps_ret pe_bl))), ?_⟩
    try dsimp only [cxOf, Cx.nox]
    obtain ⟨_, _, rfl, L, ps, cs, z, rfl, rfl, hS, hP, hc, hz, k⟩ := h
    have c1 := T.cl_Pattern
    have c3 := T.no_Pattern_negated
    walk_at "go"
    refine for_prd (fun H p (c : Row) => PatA K H p c.1 c.2) (fun pre σ H4 => (∃ v2, σ = [some (.ref L), some (.str z), v2]) ∧ Same H H4 ∧ ∀ c ∈ pre, mat c.1 z = false) ⟨⟨_, rfl⟩, Same.refl H, fun c hc => by cases hc⟩ ps hP.length (fun pre σ H4 q => ⟨q.2.1.seq hS, pas_same q.2.1 hP⟩) (fun pre c post T0 σ H4 e q hT => ?_) (fun σ H4 q => ?_)
    · obtain ⟨⟨v2, rfl⟩, s4, h4⟩ := q
      obtain ⟨qs, hT1, hT2⟩ := hT
      have hc1 := hc c (by rw [e]; simp)
      walk_at "go"
      refine ⟨_, _, rfl, T0, qs, c.1, c.2, z, rfl, rfl, hT1, hT2, hc1, hz, fun H5 s5 => ?_⟩
      walk_at "go"
      refine i_b (fun h1 => ?_) (fun h1 => ?_)
      · walk_at "go"
        refine fld_neg c1 c3 (hT1.same s5) ?_
        walk_at "go"
        rw [e, lo_hit h4 h1] at k
        exact k _ (s4.trans s5)
      · walk_at "go"
        refine ⟨⟨_, rfl⟩, s4.trans s5, fun x hx => ?_⟩
        rcases List.mem_append.mp hx with hx | hx
        · exact h4 x hx
        · rw [List.mem_singleton.mp hx]; exact h1
    · obtain ⟨⟨v2, rfl⟩, s4, h4⟩ := q
      walk_at "go"
      rw [lo_miss h4] at k
      exact k _ s4
theorem ok_start_places (T : Txt K mg)  (c_with_skipped : Cal P w K mg base 1 "_with_skipped" (sp_with_skipped K)) {f : Addr} {fd : FuncData} (F : FnP K "start_places" s_start_places f fd) : FnOk P w K mg base CX0 2 f fd ["pattern"] (sp_start_places K) := by
  refine F.ok sc_start_places (fun vs H Q E h => ?_) (fun cdv A outer s H vs Q E hr h => ?_)
  · obtain ⟨_, rfl, _⟩ := h
    rfl
  · have S := sc_start_places
    refine ⟨_, PSs.nox (pss_one (ps_ret (pe_c c_with_skipped hr (by decide) (by rfl) (pa_cons (pv 0) (pa_cons (pe_lst (pa_cons pe_int pa_nil)) pa_nil))))), ?_⟩
    try dsimp only [cxOf, Cx.nox]
    obtain ⟨_, rfl, a, qs, as, neg, rfl, hp, hA, hl, k⟩ := h
    walk_at "go"
    rename_i l hl0
    have s1 := same_new (o := .lst [.int 0]) hl0
    refine ⟨_, _, rfl, a, l, qs, as, neg, [0], rfl, rfl, hp.same s1, ats_same s1 hA, hl, SqL.of upd_same, fun k hk => by rw [List.mem_singleton.mp hk]; omega, fun r H' s2 hr => ?_⟩
    walk_at "go"
    exact k r H' (s1.trans s2) hr
theorem ok_next_places (T : Txt K mg)  (c_with_skipped : Cal P w K mg base 1 "_with_skipped" (sp_with_skipped K)) {f : Addr} {fd : FuncData} (F : FnP K "next_places" s_next_places f fd) : FnOk P w K mg base CX0 2 f fd ["pattern", "places", "char"] (sp_next_places K) := by
  refine F.ok sc_next_places (fun vs H Q E h => ?_) (fun cdv A outer s H vs Q E hr h => ?_)
  · obtain ⟨_, _, _, rfl, _⟩ := h
    rfl
  · have S := sc_next_places
    refine ⟨_, PSs.nox (pss_cons (ps_set (i := 3) S.nd rfl (by first | exact .inl rfl | exact .inr rfl) (pe_lst pa_nil))
    (pss_cons (ps_for PassesOwn.never rfl (pi_tup (pv 1)) (pg_name (i := 4) S.nd rfl (by first | exact .inl rfl | exact .inr rfl))
    (pss_one (ps_if (pt_cmpR op_lt (pv 4) (pe_callB call_len_seq (by rfl) T.f_len (by first | rfl | decide +kernel) (pa_cons (pe_fld (pv 0) rfl) pa_nil)) (nomark _))
      (pss_cons (ps_asg (pe_ix ix_tup (pe_fld (pv 0) rfl) (pv 4) (fun _ _ => rfl)) (pg_tup rfl (pgs_cons (pg_name (i := 5) S.nd rfl (by first | exact .inl rfl | exact .inr rfl)) (pgs_cons (pg_name (i := 6) S.nd rfl (by first | exact .inl rfl | exact .inr rfl)) pgs_nil))))
        (pss_one (ps_if (pt_cmpR op_in_sign (pv 2) (pv 5) (by first | rfl | with_unfolding_all rfl))
        (pss_one (ps_expr (pe_bm PySem.F.plainAttrs_list PySem.F.slot_list_append PySem.F.type_list_append mt_append (pv 3) (pa_cons (pe_ifExp (pt_val (pv 6)) (pv 4) (pe_op op_add (pv 4) pe_int)) pa_nil))))
        pss_nil)))
      pss_nil)))
    (pss_one (ps_ret (pe_c c_with_skipped hr (by decide) (by rfl) (pa_cons (pv 0) (pa_cons (pv 3) pa_nil))))))), ?_⟩
    try dsimp only [cxOf, Cx.nox]
    obtain ⟨_, _, _, rfl, a, p, qs, as, neg, ms, u, rfl, rfl, rfl, hp, hA, hl, hS, hm, hml, k⟩ := h
    have c1 := T.cl_Pattern
    have c2 := T.no_Pattern_atoms
    walk_at "go"
    rename_i D hD
    have s1 := same_new (o := .lst []) hD
    refine ⟨p, rfl, ⟨_, same_tup s1 hS⟩, ?_⟩
    refine for_intsT (ns := ms) (fun pre σ H4 => (∃ v4 v5 v6, σ = [some (.ref a), some (.ref p), some (.str ⟨#[u]⟩), some (.ref D), v4, v5, v6]) ∧ Same H H4 ∧ H4 D = some (.lst ((pre.flatMap (hit as u)).map V.int))) ⟨⟨_, _, _, rfl⟩, s1, upd_same⟩ (fun pre σ H4 q => same_tup q.2.1 hS) (fun pre x post σ H4 e q => ?_) (fun σ H4 q => ?_)
    · obtain ⟨⟨v4, v5, v6, rfl⟩, s4, e4⟩ := q
      obtain ⟨x0, xn⟩ := hm x (by rw [e]; simp)
      obtain ⟨j, rfl⟩ : ∃ j : Nat, x = (j : Int) := ⟨x.toNat, by omega⟩
      obtain ⟨dx, t, fs, h1, h2, h3, h4⟩ := hp.same s4
      have lq : (qs.map V.ref).length = as.length := by
        rw [List.length_map]
        exact hA.length
      walk_at "go"
      refine ⟨a, _, dx, _, _, rfl, h1, c1, c2, h2, ?_⟩
      walk_at "go"
      rw [lq]
      refine i_d (fun h5 => ?_) (fun h5 => ?_)
      · obtain ⟨w9, c, hw, hc, hR⟩ := prd_get (ats_same s4 hA) j (by omega)
        walk_at "go"
        refine ⟨a, _, dx, _, _, rfl, h1, c1, c2, h2, ?_⟩
        walk_at "go"
        refine e_ixT (SqT.of h4) (at_of (j := j) rfl (by rw [List.getElem?_map, hw]; rfl)) ?_
        walk_at "go"
        refine ⟨u, _, rfl, rfl, ?_⟩
        have eh : hit as u (j : Int) = if u ∈ c.1.cps.toList then [if c.2 = true then (j : Int) else (j : Int) + 1] else [] := by
          unfold hit
          rw [Int.toNat_natCast, hc]
        have sz : ((pre.flatMap (hit as u)).map V.int).length < sizeLine := by
          have a1 := hit_len as u pre
          have a2 : pre.length ≤ ms.length := by rw [e]; simp
          exact Nat.lt_of_le_of_lt (by rw [List.length_map]; omega : _ ≤ 2000) (by decide)
        walk_at "go"
        refine i_d (fun h6 => ?_) (fun h6 => ?_)
        · rw [if_pos h6] at eh
          walk_at "go"
          refine i_b (fun h7 => ?_) (fun h7 => ?_)
          · rw [if_pos h7] at eh
            walk_at "go"
            refine e_app e4 sz ?_
            exact ⟨⟨_, _, _, rfl⟩, Same.mut s4 hD, by rw [upd_same, List.flatMap_append, List.map_append]; simp [eh]⟩
          · rw [if_neg (by rw [h7]; exact Bool.false_ne_true)] at eh
            walk_at "go"
            refine e_app e4 sz ?_
            exact ⟨⟨_, _, _, rfl⟩, Same.mut s4 hD, by rw [upd_same, List.flatMap_append, List.map_append]; simp [eh]⟩
        · rw [if_neg h6] at eh
          walk_at "go"
          exact ⟨⟨_, _, _, rfl⟩, s4, by rw [e4, List.flatMap_append, List.map_append]; simp [eh]⟩
      · walk_at "go"
        refine ⟨⟨_, _, _, rfl⟩, s4, ?_⟩
        rw [e4, List.flatMap_append]
        have eh : hit as u (j : Int) = [] := by
          unfold hit
          rw [Int.toNat_natCast, List.getElem?_eq_none (by omega)]
        simp [eh]
    · obtain ⟨⟨v4, v5, v6, rfl⟩, s4, e4⟩ := q
      walk_at "go"
      refine ⟨_, _, rfl, a, D, qs, as, neg, ms.flatMap (hit as u), rfl, rfl, hp.same s4, ats_same s4 hA, hl, SqL.of e4, fun k hk => ?_, fun r H' s2 hr => ?_⟩
      · obtain ⟨m, hm1, hm2⟩ := List.mem_flatMap.mp hk
        exact hit_rg (hm m hm1).1 hm2
      · walk_at "go"
        exact k r H' (s4.trans s2) hr
theorem ok_with_skipped (T : Txt K mg)   {f : Addr} {fd : FuncData} (F : FnP K "_with_skipped" s_with_skipped f fd) : FnOk P w K mg base CX0 1 f fd ["pattern", "reached"] (sp_with_skipped K) := by
  refine F.ok sc_with_skipped (fun vs H Q E h => ?_) (fun cdv A outer s H vs Q E hr h => ?_)
  · obtain ⟨_, _, rfl, _⟩ := h
    rfl
  · have S := sc_with_skipped
    refine ⟨_, PSs.nox (pss_cons (ps_set (i := 2) S.nd rfl (by first | exact .inl rfl | exact .inr rfl) (pe_fld (pv 0) rfl))
    (pss_cons (ps_set (i := 3) S.nd rfl (by first | exact .inl rfl | exact .inr rfl) (pe_op op_rep (pe_lst (pa_cons pe_bl pa_nil)) (pe_op op_add (pe_callB call_len_seq (by rfl) T.f_len (by first | rfl | decide +kernel) (pa_cons (pv 2) pa_nil)) pe_int)))
    (pss_cons (ps_for PassesOwn.never rfl (pi_list (pv 1)) (pg_name (i := 4) S.nd rfl (by first | exact .inl rfl | exact .inr rfl))
    (pss_cons (ps_asg pe_bl (pg_sub (pv 3) (pv 4) set_list))
      (pss_one (ps_if (pw_and (pt_cmpR op_lt (pv 4) (pe_callB call_len_seq (by rfl) T.f_len (by first | rfl | decide +kernel) (pa_cons (pv 2) pa_nil)) (nomark _)) (pw_and1 (pt_val (pe_ix ix_tup (pe_ix ix_tup (pv 2) (pv 4) (fun _ _ => rfl)) pe_int (fun _ _ => rfl))))).pt
      (pss_one (ps_asg pe_bl (pg_sub (pv 3) (pe_op op_add (pv 4) pe_int) set_list)))
      pss_nil))))
    (pss_one (ps_ret (pe_callTy call_tuple_of (by rfl) T.f_tuple (by first | rfl | decide +kernel) (pa_cons (pe_lc (own := [("place", 4)]) (g := gName 4) rfl S.nd (pi_range1 (by rfl) T.f_range (pa_cons (pe_callB call_len_seq (by rfl) T.f_len (by first | rfl | decide +kernel) (pa_cons (pv 3) pa_nil)) pa_nil)) (blkOk_by (N := N_with_skipped) (sc := defScope s_with_skipped) (by decide +kernel)) (fun _ _ _ _ _ => (pg_name (i := 4) S.nd rfl (by first | exact .inl rfl | exact .inr rfl))) (fun _ _ _ _ _ => (pts_one (pt_val (pe_ix (ixL K) (pv 3) (pv 4) (fun _ _ => rfl))))) (fun _ _ _ _ _ => (pv 4))) pa_nil))))))), ?_⟩
    try dsimp only [cxOf, Cx.nox]
    obtain ⟨_, _, rfl, a, p, qs, as, neg, rs, rfl, rfl, ⟨dx, t, fs, ha, f1, f2, ht⟩, hA, hl, hp, hr, k⟩ := h
    have c1 := T.cl_Pattern
    have c2 := T.no_Pattern_atoms
    walk_at "go"
    refine ⟨a, _, dx, _, _, rfl, ha, c1, c2, f1, ?_⟩
    walk_at "go"
    rename_i m hm
    have s1 := same_new (o := .lst [.bl false]) hm
    have ht1 : SqT K _ t _ := SqT.of (s1 _ _ ht)
    have lq : (qs.map V.ref).length = as.length := by
      rw [List.length_map]
      exact hA.length
    refine ⟨t, _, rfl, .inr ht1, ?_⟩
    rw [lq]
    walk_at "go"
    refine ⟨m, _, _, rfl, rfl, upd_same, by omega, by omega, sz_of (by show 1 * _ ≤ _; omega), fun u hu => ?_⟩
    rw [show ((as.length : Nat) : Int) + 1 = ((as.length + 1 : Nat) : Int) from by omega, Int.toNat_natCast, rep_false] at *
    have s2 := s1.trans (same_new (o := .lst ((List.range (as.length + 1)).map fun _ => V.bl false)) hu)
    have u2 : (upd (upd H m (.lst [.bl false])) u (.lst ((List.range (as.length + 1)).map fun _ => V.bl false))) u = some (.lst (mks as.length (skp as []))) := by
      rw [upd_same]
      congr 2
      refine List.map_congr_left fun k _ => ?_
      simp [skp]
    have hp2 := s2.seq hp
    have hu0 : H u = none := s1.free hu
    walk_at "go"
    refine for_ints (ns := rs) (fun pre σ H4 => (∃ v4, σ = [some (.ref a), some (.ref p), some (.ref t), some (.ref u), v4]) ∧ Same H H4 ∧ H4 u = some (.lst (mks as.length (skp as pre)))) ⟨⟨_, rfl⟩, s2, u2⟩ (fun pre σ H4 q => q.2.1.seq hp) (fun pre x post σ H4 e q => ?_) (fun σ H4 q => ?_)
    · obtain ⟨⟨v4, rfl⟩, s4, e4⟩ := q
      obtain ⟨x0, xn⟩ := hr x (by rw [e]; simp)
      obtain ⟨j, rfl⟩ : ∃ j : Nat, x = (j : Int) := ⟨x.toNat, by omega⟩
      walk_at "go"
      refine e_setL (j := j) e4 (by unfold ixN; rw [if_pos x0, if_pos (by rw [mks_len]; omega)]; rfl) ?_
      rw [mks_set (by omega)]
      have s5 := Same.mut (o := .lst (mks as.length fun k => decide (k = j) || skp as pre k)) s4 hu0
      have e5 : (upd H4 u (.lst (mks as.length fun k => decide (k = j) || skp as pre k))) u = some (.lst (mks as.length fun k => decide (k = j) || skp as pre k)) := upd_same
      generalize upd H4 u (.lst (mks as.length fun k => decide (k = j) || skp as pre k)) = H5 at *
      have ht5 : SqT K _ t _ := SqT.of (s5 _ _ ht)
      walk_at "go"
      rw [lq]
      refine i_d (fun h1 => ?_) (fun h1 => ?_)
      · obtain ⟨w9, c, hw, hc, hR⟩ := prd_get hA j (by omega)
        have er : rep as j = c.2 := by unfold rep; rw [hc]; rfl
        walk_at "go"
        refine e_ixT ht5 (at_of (j := j) rfl (by rw [List.getElem?_map, hw]; rfl)) ?_
        walk_at "go"
        refine e_ixT (same_tup s5 hR) (v := .bl c.2) rfl ?_
        walk_at "go"
        refine i_b (fun h2 => ?_) (fun h2 => ?_)
        · walk_at "go"
          refine e_setL (j := j + 1) e5 (by unfold ixN; rw [if_pos (by omega), if_pos (by rw [mks_len]; omega)]; congr 1) ?_
          rw [mks_set (by omega), skp_yes (er.trans h2)]
          exact ⟨⟨_, rfl⟩, Same.mut s5 hu0, upd_same⟩
        · walk_at "go"
          exact ⟨⟨_, rfl⟩, s5, by rw [e5, skp_no (er.trans h2)]⟩
      · walk_at "go"
        have er : rep as j = false := by unfold rep; rw [List.getElem?_eq_none (by omega)]; rfl
        exact ⟨⟨_, rfl⟩, s5, by rw [e5, skp_no er]⟩
    · obtain ⟨⟨v4, rfl⟩, s4, e4⟩ := q
      walk_at "go"
      rw [mks_len]
      refine ⟨by omega, by omega, ?_⟩
      intro D hD
      refine lc_filt (K := K) hD (by omega) (skp as rs) (fun i => .int (0 + (i : Int))) (fun i H5 C E' hi s5 h1 h2 => ?_) (fun H5 s5 e5 => ?_)
      · have hi : i < as.length + 1 := by omega
        walk_at "go"
        refine e_ixL (SqL.of (s5 _ _ e4)) (v := .bl (skp as rs i)) (at_of (j := i) (by omega) (by unfold mks; rw [List.getElem?_map, List.getElem?_range hi]; rfl)) ?_
        walk_at "go"
        refine i_b (fun q => ?_) (fun q => ?_)
        · walk_at "go"
          exact h1 q H5 (Same.refl H5)
        · exact h2 q H5 (Same.refl H5)
      walk_at "go"
      refine ⟨D, _, rfl, .inl ⟨SqL.of e5, fun l hl2 => ?_⟩⟩
      walk_at "go"
      refine k l _ ((s4.trans s5).trans (same_new hl2)) ?_
      rw [upd_same]
      rw [Int.toNat_natCast]
      unfold plc
      rw [List.map_map]
      congr 2
      refine List.map_congr_left fun i _ => ?_
      show V.int (0 + (i : Int)) = V.int (i : Int)
      rw [Int.zero_add]
theorem ok_law_draw (T : Txt K mg)   {f : Addr} {fd : FuncData} (F : FnP K "_law_draw" s_law_draw f fd) : FnOk P w K mg base CX0 1 f fd ["state", "script", "size"] (spDraw K) := by
  refine F.ok sc_law_draw (fun vs H Q E h => ?_) (fun cdv A outer s H vs Q E hr h => ?_)
  · obtain ⟨_, _, _, rfl, _⟩ := h
    rfl
  · have S := sc_law_draw
    refine ⟨_, PSs.nox (C8.pss_cut (ps_if (pt_cmpR op_eq (pe_ix ix_list (pv 0) pe_int (fun _ _ => rfl)) pe_int (nomark _))
    (pss_cons (ps_set (i := 3) S.nd rfl (by first | exact .inl rfl | exact .inr rfl) (pe_ix ix_list (pv 0) pe_int (fun _ _ => rfl)))
      (pss_cons (ps_set (i := 4) S.nd rfl (by first | exact .inl rfl | exact .inr rfl) pe_int)
      (C8.pss_cut (ps_if (pt_cmpR op_gt (pe_callB call_len_seq (by rfl) T.f_len (by first | rfl | decide +kernel) (pa_cons (pv 1) pa_nil)) pe_int (nomark _))
      (pss_one (ps_set (i := 4) S.nd rfl (by first | exact .inl rfl | exact .inr rfl) (pe_callTy call_int1 (by rfl) T.f_int (by first | rfl | decide +kernel) (pa_cons (pe_ix ix_list (pv 1) (pe_op op_mod (pv 3) (pe_callB call_len_seq (by rfl) T.f_len (by first | rfl | decide +kernel) (pa_cons (pv 1) pa_nil))) (fun _ _ => rfl)) pa_nil))))
      pss_nil)
      (C8.pss_cut (ps_if (pt_cmpR op_lt (pv 4) pe_int (nomark _))
      (pss_one (ps_set (i := 4) S.nd rfl (by first | exact .inl rfl | exact .inr rfl) (pe_op op_sub pe_int (pe_op op_mul pe_int (pv 4)))))
      pss_nil)
      (C8.pss_cut (ps_if (pw_and (pt_cmpR op_ge (pv 4) (pe_op op_pow pe_int pe_int) (nomark _)) (pw_and1 (pt_cmpR op_lt (pv 3) (pe_callB call_len_seq (by rfl) T.f_len (by first | rfl | decide +kernel) (pa_cons (pv 1) pa_nil)) (nomark _)))).pt
      (pss_one (ps_asg (pv 4) (pg_sub (pv 0) pe_int set_list)))
      (pss_cons (ps_set (i := 5) S.nd rfl (by first | exact .inl rfl | exact .inr rfl) (pe_op op_mod (pe_callTy call_int1 (by rfl) T.f_int (by first | rfl | decide +kernel) (pa_cons (pe_op op_add (pe_op op_add (pe_op op_mul (pv 4) pe_int) (pe_op op_mul (pv 3) pe_int)) pe_int) pa_nil)) pe_int))
        (pss_one (ps_asg (pe_op op_add pe_int (pe_op op_mod (pe_callTy call_int1 (by rfl) T.f_int (by first | rfl | decide +kernel) (pa_cons (pe_op op_add (pe_op op_mul (pv 5) pe_int) (pe_op op_mul (pv 3) pe_int)) pa_nil)) pe_int)) (pg_sub (pv 0) pe_int set_list)))))
      (pss_one (ps_asg (pe_op op_add (pv 3) pe_int) (pg_sub (pv 0) pe_int set_list))))))))
    pss_nil)
    (pss_cons (ps_set (i := 6) S.nd rfl (by first | exact .inl rfl | exact .inr rfl) (pe_op op_mod (pe_callTy call_int1 (by rfl) T.f_int (by first | rfl | decide +kernel) (pa_cons (pe_ix ix_list (pv 0) pe_int (fun _ _ => rfl)) pa_nil)) (pv 2)))
    (pss_cons (ps_asg (pe_op op_fdivW (pe_ix ix_list (pv 0) pe_int (fun _ _ => rfl)) (pv 2)) (pg_sub (pv 0) pe_int set_list))
    (pss_one (ps_ret (pv 6)))))), ?_⟩
    try dsimp only [cxOf, Cx.nox]
    obtain ⟨_, _, _, rfl, st, sc, ns, n, rfl, rfl, rfl, d, hn0, hn1, k⟩ := h
    obtain ⟨ia, ib, ha0, hb0, hs⟩ := d.s
    have h1 : ∀ (x y : Int), 0 ≤ x → 0 ≤ y → Kp st H (upd H st (.lst [.int x, .int y])) ∧ Dr K st sc ns (upd H st (.lst [.int x, .int y])) := fun x y hx hy =>
      have k1 : Kp st H (upd H st (.lst [.int x, .int y])) := Kp.put (Kp.refl st H)
      ⟨k1, d.kp k1 ⟨x, y, hx, hy, upd_same⟩⟩
    refine e_cut (Mid := fun σ' H' => ∃ (v3 v4 v5 : Option V), σ' = [some (.ref st), some (.ref sc), some (.int n), v3, v4, v5, none] ∧ Kp st H H' ∧ Dr K st sc ns H') ?_ ?_
    · walk_at "go"
      refine e_ixL (SqL.of hs) rfl ?_
      walk_at "go"
      refine i_d (fun e => ?_) (fun e => ?_)
      · walk_at "go"
        refine e_ixL (SqL.of hs) rfl ?_
        walk_at "go"
        -- cell = int(script[at % len(script)])
        refine e_cut (Mid := fun σ' H' => ∃ c : Int, σ' = [some (.ref st), some (.ref sc), some (.int n), some (.int ia), some (.int c), none, none] ∧ H' = H) ?_ ?_
        · walk_at "go"
          refine i_d (fun e2 => ?_) (fun e2 => ?_)
          · walk_at "go"
            have hm : 0 ≤ ia % (((ns.map V.int).length : Nat) : Int) := Int.emod_nonneg _ (by omega)
            have hm2 : ia % (((ns.map V.int).length : Nat) : Int) < (((ns.map V.int).length : Nat) : Int) := Int.emod_lt_of_pos _ (by omega)
            have hlt : (ia % (((ns.map V.int).length : Nat) : Int)).toNat < ns.length := by rw [List.length_map] at hm hm2 ⊢; omega
            refine e_ixL (v := .int ns[(ia % (((ns.map V.int).length : Nat) : Int)).toNat]) d.seq (at_of (j := (ia % (((ns.map V.int).length : Nat) : Int)).toNat) (by omega) (by rw [List.getElem?_map, List.getElem?_eq_getElem hlt]; rfl)) ?_
            walk_at "go"
            exact ⟨_, rfl, rfl⟩
          · walk_at "go"
            exact ⟨_, rfl, rfl⟩
        · rintro σ' H' ⟨c, rfl, rfl⟩
          refine e_cut (Mid := fun σ' H'' => ∃ c : Int, 0 ≤ c ∧ σ' = [some (.ref st), some (.ref sc), some (.int n), some (.int ia), some (.int c), none, none] ∧ H'' = H') ?_ ?_
          · walk_at "go"
            refine i_d (fun e2 => ?_) (fun e2 => ?_)
            · walk_at "go"
              exact ⟨_, by omega, rfl, rfl⟩
            · walk_at "go"
              exact ⟨_, by omega, rfl, rfl⟩
          · rintro σ' H'' ⟨c, hc, rfl, rfl⟩
            refine e_cut (Mid := fun σ' H3 => ∃ (v5 : Option V) (b : Int), 0 ≤ b ∧ σ' = [some (.ref st), some (.ref sc), some (.int n), some (.int ia), some (.int c), v5, none] ∧ H3 = upd H'' st (.lst [.int ia, .int b])) ?_ ?_
            · walk_at "go"
              have fin : ∀ (v5 : Option V) (b : Int), 0 ≤ b → ∃ (v5' : Option V) (b' : Int), 0 ≤ b' ∧ [some (V.ref st), some (V.ref sc), some (V.int n), some (V.int ia), some (V.int c), v5, none] = [some (.ref st), some (.ref sc), some (.int n), some (.int ia), some (.int c), v5', none] ∧ upd H'' st (HO.lst [V.int ia, V.int b]) = upd H'' st (.lst [.int ia, .int b']) := fun v5 b hb => ⟨v5, b, hb, rfl, rfl⟩
              have other : ∀ x : Int, 0 ≤ 1 + x % 2305843009213693951 := fun x => by
                have := Int.emod_nonneg x (show (2305843009213693951 : Int) ≠ 0 by decide)
                omega
              refine i_d (fun e2 => ?_) (fun e2 => ?_)
              · walk_at "go"
                refine i_d (fun e3 => ?_) (fun e3 => ?_)
                · walk_at "go"
                  refine e_setL hs rfl ?_
                  exact ⟨none, c, hc, rfl, by rw [e]; rfl⟩
                · walk_at "go"
                  refine e_setL hs rfl ?_
                  exact ⟨_, _, other _, rfl, rfl⟩
              · walk_at "go"
                refine e_setL hs rfl ?_
                exact ⟨_, _, other _, rfl, rfl⟩
            · rintro σ' H3 ⟨v5, b, hb, rfl, rfl⟩
              walk_at "go"
              refine e_setL upd_same rfl ?_
              rw [upd_upd]
              obtain ⟨k1, d1⟩ := h1 (ia + 1) b (by omega) hb
              exact ⟨_, _, _, rfl, k1, d1⟩
      · walk_at "go"
        exact ⟨_, _, _, rfl, Kp.refl _ _, d⟩
    · rintro σ' H' ⟨v3, v4, v5, rfl, k1, d1⟩
      obtain ⟨ja, jb, hja, hjb, hs1⟩ := d1.s
      walk_at "go"
      refine e_ixL (SqL.of hs1) rfl ?_
      walk_at "go"
      refine e_ixL (SqL.of hs1) rfl ?_
      walk_at "go"
      refine e_setL hs1 rfl ?_
      have hj2 : 0 ≤ jb / n := Int.ediv_nonneg hjb (by omega)
      have k2 : Kp st H (upd H' st (.lst [.int ja, .int (jb / n)])) := k1.put
      walk_at "go"
      exact k _ _ (Int.emod_nonneg _ (by omega)) (Int.emod_lt_of_pos _ hn0) k2 (d.kp k2 ⟨ja, jb / n, hja, hj2, upd_same⟩)
theorem ok_law_all (T : Txt K mg)   {f : Addr} {fd : FuncData} (F : FnP K "_law_all" s_law_all f fd) : FnOk P w K mg base CX0 1 f fd [] (sp_law_all K) := by
  refine F.ok sc_law_all (fun vs H Q E h => ?_) (fun cdv A outer s H vs Q E hr h => ?_)
  · obtain ⟨rfl, _⟩ := h
    rfl
  · have S := sc_law_all
    refine ⟨_, PSs.nox (pss_one (ps_ret pe_str)), ?_⟩
    try dsimp only [cxOf, Cx.nox]
    obtain ⟨rfl, k⟩ := h
    walk_at "go"
    exact k
theorem ok_law_told (T : Txt K mg)   {f : Addr} {fd : FuncData} (F : FnP K "_law_told" s_law_told f fd) : FnOk P w K mg base CX0 1 f fd ["actual", "due"] (sp_law_told K) := by
  refine F.ok sc_law_told (fun vs H Q E h => ?_) (fun cdv A outer s H vs Q E hr h => ?_)
  · obtain ⟨_, _, rfl, _⟩ := h
    rfl
  · have S := sc_law_told
    refine ⟨_, PSs.nox (pss_one (ps_ret (pe_and (pe_callB call_isi (by rfl) T.f_isinstance (by first | rfl | decide +kernel) (pa_cons (pv 0) (pa_cons (pe_bltn (v := .ty "bool") (by rfl) T.f_bool (by first | rfl | decide +kernel) rfl) pa_nil))) (pe_one (pe_cmpR op_eq (pv 0) (pv 1) (nomark _)))))), ?_⟩
    try dsimp only [cxOf, Cx.nox]
    obtain ⟨_, _, rfl, x, y, rfl, rfl, k⟩ := h
    walk_at "go"
    exact k
theorem ok_law_atom (T : Txt K mg)  (c_law_all : Cal P w K mg base 1 "_law_all" (sp_law_all K)) (c_law_draw : Cal P w K mg base 1 "_law_draw" (spDraw K)) {f : Addr} {fd : FuncData} (F : FnP K "_law_atom" s_law_atom f fd) : FnOk P w K mg base CX0 2 f fd ["state", "script", "before"] (sp_law_atom K) := by
  refine F.ok sc_law_atom (fun vs H Q E h => ?_) (fun cdv A outer s H vs Q E hr h => ?_)
  · obtain ⟨_, _, _, rfl, _⟩ := h
    rfl
  · have S := sc_law_atom
    refine ⟨_, PSs.nox (pss_cons (ps_set (i := 3) S.nd rfl (by first | exact .inl rfl | exact .inr rfl) (pe_join pe_str (pe_lc (own := [("char", 9)]) (g := gName 9) rfl S.nd (pi_str (pe_c0 c_law_all hr (by decide) (by rfl))) (blkOk_by (N := N_law_atom) (sc := defScope s_law_atom) (by decide +kernel)) (fun _ _ _ _ _ => (pg_name (i := 9) S.nd rfl (by first | exact .inl rfl | exact .inr rfl))) (fun _ _ _ _ _ => (pts_one (pt_cmpR op_ne (pv 9) pe_str (nomark _)))) (fun _ _ _ _ _ => (pv 9)))))
    (pss_cons (ps_set (i := 4) S.nd rfl (by first | exact .inl rfl | exact .inr rfl) (pe_c c_law_draw hr (by decide) (by rfl) (pa_cons (pv 0) (pa_cons (pv 1) (pa_cons pe_int pa_nil)))))
    (pss_cons (ps_if (pw_and (pt_cmpR op_gt (pv 4) pe_int (nomark _)) (pw_and1 (pt_not (pt_val (pv 2))))).pt
    (pss_one (ps_ret (pe_tup (pa_cons (pe_ix ix_list (pe_lst (pa_cons (pv 3) (pa_cons (pe_c0 c_law_all hr (by decide) (by rfl)) pa_nil))) (pe_op op_sub (pv 4) pe_int) (fun _ _ => rfl)) (pa_cons pe_bl pa_nil)))))
    pss_nil)
    (pss_cons (ps_if (pt_cmpR op_eq (pv 4) pe_int (nomark _))
    (pss_one (ps_ret (pe_tup (pa_cons (pv 3) (pa_cons pe_bl pa_nil)))))
    pss_nil)
    (pss_cons (ps_if (pt_cmpR op_eq (pv 4) pe_int (nomark _))
    (pss_cons (ps_set (i := 5) S.nd rfl (by first | exact .inl rfl | exact .inr rfl) (pe_op op_add pe_int (pe_c c_law_draw hr (by decide) (by rfl) (pa_cons (pv 0) (pa_cons (pv 1) (pa_cons pe_int pa_nil))))))
      (pss_cons (ps_set (i := 6) S.nd rfl (by first | exact .inl rfl | exact .inr rfl) (pe_c c_law_draw hr (by decide) (by rfl) (pa_cons (pv 0) (pa_cons (pv 1) (pa_cons (pv 5) pa_nil)))))
      (pss_cons (ps_set (i := 7) S.nd rfl (by first | exact .inl rfl | exact .inr rfl) (pe_cmpR op_eq (pe_c c_law_draw hr (by decide) (by rfl) (pa_cons (pv 0) (pa_cons (pv 1) (pa_cons pe_int pa_nil)))) pe_int (nomark _)))
      (pss_one (ps_ret (pe_tup (pa_cons (pe_join pe_str (pe_lc (own := [("k", 10)]) (g := gName 10) rfl S.nd (pi_range1 (by rfl) T.f_range (pa_cons pe_int pa_nil)) (blkOk_by (N := N_law_atom) (sc := defScope s_law_atom) (by decide +kernel)) (fun _ _ _ _ _ => (pg_name (i := 10) S.nd rfl (by first | exact .inl rfl | exact .inr rfl))) (fun _ _ _ _ _ => (pts_one (pt_cmpR op_ne (pe_cmpR op_eq (pe_op op_mod (pv 10) (pv 5)) (pv 6) (nomark _)) (pv 7) (nomark _)))) (fun _ _ _ _ _ => (pe_ix ix_str (pe_c0 c_law_all hr (by decide) (by rfl)) (pv 10) (fun _ _ => rfl))))) (pa_cons pe_bl pa_nil))))))))
    pss_nil)
    (pss_cons (ps_if (pt_cmpR op_eq (pv 4) pe_int (nomark _))
    (pss_one (ps_ret (pe_tup (pa_cons (pe_ix ix_list (pe_lst (pa_cons pe_str (pa_cons pe_str (pa_cons pe_str (pa_cons pe_str (pa_cons pe_str (pa_cons pe_str pa_nil))))))) (pe_c c_law_draw hr (by decide) (by rfl) (pa_cons (pv 0) (pa_cons (pv 1) (pa_cons pe_int pa_nil)))) (fun _ _ => rfl)) (pa_cons pe_bl pa_nil)))))
    pss_nil)
    (pss_cons (ps_if (pt_cmpR op_eq (pv 4) pe_int (nomark _))
    (pss_cons (ps_set (i := 8) S.nd rfl (by first | exact .inl rfl | exact .inr rfl) (pe_c c_law_draw hr (by decide) (by rfl) (pa_cons (pv 0) (pa_cons (pv 1) (pa_cons pe_int pa_nil)))))
      (pss_one (ps_ret (pe_tup (pa_cons (pe_slice sl_str (pe_c0 c_law_all hr (by decide) (by rfl)) (po_some (pv 8)) (po_some (pe_op op_add (pe_op op_add (pv 8) pe_int) (pe_c c_law_draw hr (by decide) (by rfl) (pa_cons (pv 0) (pa_cons (pv 1) (pa_cons pe_int pa_nil))))))) (pa_cons pe_bl pa_nil))))))
    pss_nil)
    (pss_cons (ps_if (pt_cmpR op_eq (pv 4) pe_int (nomark _))
    (pss_one (ps_ret (pe_tup (pa_cons (pe_ix ix_str (pe_c0 c_law_all hr (by decide) (by rfl)) (pe_c c_law_draw hr (by decide) (by rfl) (pa_cons (pv 0) (pa_cons (pv 1) (pa_cons pe_int pa_nil)))) (fun _ _ => rfl)) (pa_cons pe_bl pa_nil)))))
    pss_nil)
    (pss_one (ps_ret (pe_tup (pa_cons (pe_ix ix_str pe_str (pe_c c_law_draw hr (by decide) (by rfl) (pa_cons (pv 0) (pa_cons (pv 1) (pa_cons pe_int pa_nil)))) (fun _ _ => rfl)) (pa_cons pe_bl pa_nil))))))))))))), ?_⟩
    try dsimp only [cxOf, Cx.nox]
    obtain ⟨_, _, _, rfl, st, sc, ns, f, rfl, rfl, rfl, d, k⟩ := h
    walk_at "go"
    intro D hD
    refine lc_str (fun pre H1 => Same H H1 ∧ pre.length ≤ 67 ∧ H1 D = some (.lst ((ones (pre.filter fun x : Nat => !decide ((⟨#[x]⟩ : Str) = ("/" : Str)))).map V.str))) ⟨same_new hD, by decide, upd_same⟩ (fun pre x post H7 e q => ?_) (fun H7 q => ?_)
    · obtain ⟨q1, q2, q3⟩ := q
      have q4 : (pre ++ [x]).length ≤ 67 := Nat.le_trans (pre_le e) (by decide)
      walk_at "go"
      refine i_nd (fun h1 => ?_) (fun h1 => ?_)
      · walk_at "go"
        refine ⟨_, q3, small (by
          rw [List.length_map, List.length_map]
          have h5 := List.length_filter_le (fun x : Nat => !decide ((⟨#[x]⟩ : Str) = ("/" : Str))) pre
          rw [List.length_append] at q4
          omega : _ ≤ 67) (by decide), Same.mut q1 hD, q4, ?_⟩
        rw [upd_same, List.filter_append, List.filter_cons_of_pos (by rw [decide_eq_false h1]; rfl), ones, ones, List.map_append, List.map_append]
        rfl
      · refine ⟨q1, q4, ?_⟩
        rw [List.filter_append, List.filter_cons_of_neg (by rw [decide_eq_true h1]; exact Bool.false_ne_true), List.filter_nil, List.append_nil]
        exact q3
    obtain ⟨q1, q2, q3⟩ := q
    have q3' : H7 D = some (.lst ((ones pl0).map V.str)) := q3
    clear q3
    refine ⟨_, _, ones pl0, rfl, rfl, .inl (SqL.of q3'), by rw [ones_len, List.length_map, pl0_len]; decide, ?_⟩
    have jl : (Txt.join ("" : Str) (ones pl0)).length = 66 := by rw [ones_join, pl0_len]
    generalize Txt.join ("" : Str) (ones pl0) = plain at jl ⊢
    have d7 := d.same q1
    have k7 := Kp.of (st := st) q1
    clear q1 q2 q3' hD d
    walk_at "go"
    intro v1 H1 a1 b1 k1 d1
    have kk1 := k7.trans k1
    clear k7 k1 d7
    have fin : ∀ (z : Str) (b : Bool) (H2 : Hp) (p : Addr), 1 ≤ z.length → z.length ≤ 67 → (f = true → b = false) → Kp st H H2 → Dr K st sc ns H2 → H2 p = none → Q (.ref p) (upd H2 p (.tup [.str z, .bl b])) := fun z b H2 p h1 h2 h3 h4 h5 h6 =>
      k p (z, b) _ ⟨h1, h2⟩ h3 (h4.trans (Kp.new h6)) (h5.same (same_new h6)) (SqT.of upd_same)
    have lA : ("-./0123456789ABCDEFGHIJKLMNOPQRSTUVWXYZ_abcdefghijklmnopqrstuvwxyz~" : Str).length = 67 := rfl
    have one : ∀ c : Nat, (⟨#[c]⟩ : Str).length = 1 := fun _ => rfl
    clear k
    walk_at "go"
    have two : (8 < v1 ∧ f = false) ∨ ¬ (8 < v1 ∧ f = false) := by
      by_cases h : 8 < v1 ∧ f = false
      · exact .inl h
      · exact .inr h
    rcases two with ⟨h8, rfl⟩ | two
    · rw [decide_eq_true h8]
      walk_at "go"
      rename_i l hl
      rcases (by omega : v1 = 9 ∨ v1 = 10) with rfl | rfl
      · refine e_ixL (v := .str plain) (SqL.of upd_same) rfl ?_
        walk_at "go"
        exact fin _ _ _ _ (by omega) (by omega) (fun h => nomatch h) (kk1.trans (Kp.new hl)) (d1.same (same_new hl)) (by assumption)
      · refine e_ixL (v := .str _) (SqL.of upd_same) rfl ?_
        walk_at "go"
        exact fin _ _ _ _ (by decide) (by decide) (fun h => nomatch h) (kk1.trans (Kp.new hl)) (d1.same (same_new hl)) (by assumption)
    · refine i_d (fun h8 => ?_) (fun h8 => ?_)
      · walk_at "go"
        have hf : f = true := by
          cases f
          · exact absurd ⟨h8, rfl⟩ two
          · rfl
        subst hf
        walk_at "go"
        rw [decide_eq_false (by omega : ¬ v1 = 5)]
        walk_at "go"
        rw [decide_eq_false (by omega : ¬ v1 = 6)]
        walk_at "go"
        rw [decide_eq_false (by omega : ¬ v1 = 7)]
        walk_at "go"
        rw [decide_eq_false (by omega : ¬ v1 = 8)]
        walk_at "go"
        rw [decide_eq_false (by omega : ¬ v1 = 4)]
        walk_at "go"
        intro v2 H2 a2 b2 k2 d2
        obtain ⟨c, hc, ec⟩ := pick_sign (z := ("ab/.~x" : Str)) a2 b2
        refine e_ixS (sz_of (by decide)) ec ?_
        walk_at "go"
        exact fin _ _ _ _ (by rw [one]; decide) (by rw [one]; decide) (fun _ => rfl) (kk1.trans k2) d2 (by assumption)
      · walk_at "go"
        refine i_d (fun h5 => ?_) (fun h5 => ?_)
        · walk_at "go"
          exact fin _ _ _ _ (by omega) (by omega) (fun _ => rfl) kk1 d1 (by assumption)
        walk_at "go"
        refine i_d (fun h6 => ?_) (fun h6 => ?_)
        · walk_at "go"
          intro v2 H2 a2 b2 k2 d2
          walk_at "go"
          intro v3 H3 a3 b3 k3 d3
          walk_at "go"
          intro v4 H4 a4 b4 k4 d4
          walk_at "go"
          intro D2 hD2
          have kk4 := kk1.trans (k2.trans (k3.trans k4))
          refine lc_filt (K := K) hD2 (by decide) (per (2 + v2) v3 (decide (v4 = 1))) (fun i => .str ⟨#[CH.getD i 0]⟩) (fun i H5 C E' hi s5 h1 h2 => ?_) (fun H5 s5 e5 => ?_)
          · walk_at "go"
            refine i_b (fun q => ?_) (fun q => ?_)
            · walk_at "go"
              have hi : i < 67 := hi
              have hc : CH[i]? = some (CH.getD i 0) := by
                have hl : i < CH.length := hi
                rw [List.getD_eq_getElem?_getD, List.getElem?_eq_getElem hl]; rfl
              refine e_ixS (i := 0 + (i : Int)) (sz_of (by decide)) (c := CH.getD i 0) (at_ofN (j := i) (by omega) hc) ?_
              exact h1 q H5 (Same.refl H5)
            · exact h2 q H5 (Same.refl H5)
          obtain ⟨i0, hi0, hp0⟩ := per_some (o := decide (v4 = 1)) (by omega : 2 ≤ 2 + v2) (by omega) a3 b3
          have l1 : 1 ≤ (((List.range 67).filter (per (2 + v2) v3 (decide (v4 = 1)))).map fun i => CH.getD i 0).length := by
            rw [List.length_map]
            exact List.length_pos_of_mem (List.mem_filter.mpr ⟨List.mem_range.mpr hi0, hp0⟩)
          have l2 : (((List.range 67).filter (per (2 + v2) v3 (decide (v4 = 1)))).map fun i => CH.getD i 0).length ≤ 67 := by
            rw [List.length_map]
            exact Nat.le_trans (List.length_filter_le ..) (by rw [List.length_range]; exact Nat.le_refl _)
          have e5' : H5 D2 = some (.lst ((ones (((List.range 67).filter (per (2 + v2) v3 (decide (v4 = 1)))).map fun i => CH.getD i 0)).map V.str)) := by
            rw [ones, List.map_map, List.map_map]
            exact e5
          generalize (((List.range 67).filter (per (2 + v2) v3 (decide (v4 = 1)))).map fun i => CH.getD i 0) = L at l1 l2 e5' ⊢
          clear e5
          refine ⟨_, _, ones L, rfl, rfl, .inl (SqL.of e5'), by rw [ones_len]; show L.length + _ * 0 ≤ _; omega, ?_⟩
          walk_at "go"
          exact fin _ _ _ _ (by rw [ones_join]; exact l1) (by rw [ones_join]; exact l2) (fun _ => rfl) (kk4.trans (Kp.of s5)) (d4.same s5) (by assumption)
        walk_at "go"
        refine i_d (fun h7 => ?_) (fun h7 => ?_)
        · walk_at "go"
          rename_i l hl
          intro v2 H2 a2 b2 k2 d2
          have e2 := k2 _ _ (d1.ne hl) upd_same
          obtain ⟨z, hz, ez⟩ := pick_str (l := ["ab", "/a", "-~", "abc", "./", "xyz"]) a2 b2
          refine e_ixL (v := .str z) (SqL.of e2) ez ?_
          walk_at "go"
          have hb : 1 ≤ z.length ∧ z.length ≤ 67 := by
            have : ∀ z ∈ (["ab", "/a", "-~", "abc", "./", "xyz"] : List Str), 1 ≤ z.length ∧ z.length ≤ 67 := by decide
            exact this z hz
          exact fin _ _ _ _ hb.1 hb.2 (fun _ => rfl) (kk1.trans ((Kp.new hl).trans k2)) d2 (by assumption)
        walk_at "go"
        refine i_d (fun h9 => ?_) (fun h9 => ?_)
        · walk_at "go"
          intro v2 H2 a2 b2 k2 d2
          walk_at "go"
          intro v3 H3 a3 b3 k3 d3
          walk_at "go"
          exact fin _ _ _ _ (cut_pos a2 (by rw [lA]; omega) (by omega)) (Nat.le_trans (cutS_length _ _ _) (by decide)) (fun _ => rfl) (kk1.trans (k2.trans k3)) d3 (by assumption)
        walk_at "go"
        refine i_d (fun h4 => ?_) (fun h4 => ?_)
        · walk_at "go"
          intro v2 H2 a2 b2 k2 d2
          obtain ⟨c, hc, ec⟩ := pick_sign (z := ("-./0123456789ABCDEFGHIJKLMNOPQRSTUVWXYZ_abcdefghijklmnopqrstuvwxyz~" : Str)) a2 b2
          refine e_ixS (sz_of (by decide)) ec ?_
          walk_at "go"
          exact fin _ _ _ _ (by rw [one]; decide) (by rw [one]; decide) (fun _ => rfl) (kk1.trans k2) d2 (by assumption)
        walk_at "go"
        intro v2 H2 a2 b2 k2 d2
        obtain ⟨c, hc, ec⟩ := pick_sign (z := ("ab/.~x" : Str)) a2 b2
        refine e_ixS (sz_of (by decide)) ec ?_
        walk_at "go"
        exact fin _ _ _ _ (by rw [one]; decide) (by rw [one]; decide) (fun _ => rfl) (kk1.trans k2) d2 (by assumption)
theorem ok_law_atoms (T : Txt K mg)  (c_law_draw : Cal P w K mg base 1 "_law_draw" (spDraw K)) (c_law_atom : Cal P w K mg base 2 "_law_atom" (sp_law_atom K)) {f : Addr} {fd : FuncData} (F : FnP K "_law_atoms" s_law_atoms f fd) : FnOk P w K mg base CX0 3 f fd ["state", "script", "most"] (sp_law_atoms K) := by
  refine F.ok sc_law_atoms (fun vs H Q E h => ?_) (fun cdv A outer s H vs Q E hr h => ?_)
  · obtain ⟨_, _, _, rfl, _⟩ := h
    rfl
  · have S := sc_law_atoms
    refine ⟨_, PSs.nox (pss_cons (ps_set (i := 3) S.nd rfl (by first | exact .inl rfl | exact .inr rfl) (pe_lst pa_nil))
    (pss_cons (ps_for PassesOwn.never rfl (pi_range1 (by rfl) T.f_range (pa_cons (pe_op op_add pe_int (pe_c c_law_draw hr (by decide) (by rfl) (pa_cons (pv 0) (pa_cons (pv 1) (pa_cons (pv 2) pa_nil))))) pa_nil)) (pg_name (i := 4) S.nd rfl (by first | exact .inl rfl | exact .inr rfl))
    (pss_one (ps_expr (pe_bm PySem.F.plainAttrs_list PySem.F.slot_list_append PySem.F.type_list_append mt_append (pv 3) (pa_cons (pe_c c_law_atom hr (by decide) (by rfl) (pa_cons (pv 0) (pa_cons (pv 1) (pa_cons (pe_and (pe_cmpR op_gt (pe_callB call_len_seq (by rfl) T.f_len (by first | rfl | decide +kernel) (pa_cons (pv 3) pa_nil)) pe_int (nomark _)) (pe_one (pe_ix ix_tup (pe_ix ix_list (pv 3) (pe_un un_neg pe_int) (fun _ _ => rfl)) pe_int (fun _ _ => rfl)))) pa_nil)))) pa_nil)))))
    (pss_one (ps_ret (pv 3))))), ?_⟩
    try dsimp only [cxOf, Cx.nox]
    obtain ⟨_, _, _, rfl, st, sc, ns, n, rfl, rfl, rfl, n0, n1, d, k⟩ := h
    walk_at "go"
    rename_i D hD
    intro v1 H1 a1 b1 k1 d1
    have nD : D ≠ st := d.ne hD
    have k0 := (Kp.new (o := .lst []) hD).trans k1
    have e1 : H1 D = some (.lst []) := k1 _ _ nD upd_same
    walk_at "go"
    have hn : (1 + v1).toNat ≤ 40 := by omega
    have hn1 : 1 ≤ (1 + v1).toNat := by omega
    generalize (1 + v1).toNat = m at hn hn1 ⊢
    refine for_rng (fun i σ H4 => (∃ v, σ = [some (.ref st), some (.ref sc), some (.int n), some (.ref D), v]) ∧ Kp st H H4 ∧ Dr K st sc ns H4 ∧ ∃ (qs : List Addr) (as : List Atm), H4 D = some (.lst (qs.map V.ref)) ∧ Ats K H4 qs as ∧ as.length = i ∧ noTwo as ∧ ∀ c ∈ as, goodC c) ⟨⟨_, rfl⟩, k0, d1, [], [], e1, .nil, rfl, fun k h => by simp [rep] at h, fun c hc => by cases hc⟩ (fun i σ H4 hi q => ?_) (fun σ H4 q => ?_)
    · obtain ⟨⟨v, rfl⟩, k4, d4, qs, as, e4, hA, rfl, h2, hg⟩ := q
      have lq : qs.length = as.length := hA.length
      have put : ∀ (r : Addr) (c : Atm) (H5 : Hp), goodC c → (∀ n, as.length = n + 1 → rep as n = true → c.2 = false) → Kp st H4 H5 → Dr K st sc ns H5 → SqT K H5 r [.str c.1, .bl c.2] → rAppend (.ref D) [.ref r] H5 fun x H1 => (∃ v_1 : Option V, [some (V.ref st), some (V.ref sc), some (V.int n), some (V.ref D), some (V.int (0 + (as.length : Nat)))] = [some (V.ref st), some (V.ref sc), some (V.int n), some (V.ref D), v_1]) ∧ Kp st H H1 ∧ Dr K st sc ns H1 ∧ ∃ (qs : List Addr) (as_1 : List Atm), H1 D = some (.lst (qs.map V.ref)) ∧ Ats K H1 qs as_1 ∧ as_1.length = as.length + 1 ∧ noTwo as_1 ∧ ∀ c ∈ as_1, goodC c := by
        intro r c H5 hc hc2 k5 d5 hr5
        have e5 := k5 _ _ nD e4
        refine e_app e5 (small (by rw [List.length_map, lq]; omega : _ ≤ 40) (by decide)) ?_
        have hrD : Kp D H5 (upd H5 D (.lst (qs.map V.ref ++ [.ref r]))) := Kp.put (Kp.refl _ _)
        have kq : ∀ {x : Addr} {xs : List V}, SqT K H5 x xs → SqT K (upd H5 D (.lst (qs.map V.ref ++ [.ref r]))) x xs := fun {x xs} h => by
          rcases h with (h | ⟨o, h⟩) | h
          · exact .inl (.inl (hrD _ _ (fun z => by rw [z, e5] at h; cases h) h))
          · exact .inl (.inr ⟨o, hrD _ _ (fun z => by rw [z, e5] at h; cases h) h⟩)
          · exact .inr h
        refine ⟨⟨_, rfl⟩, (k4.trans k5).mut hD, Dr.mut d d5 hD (k4.trans k5), qs ++ [r], as ++ [c], by rw [upd_same, List.map_append]; rfl, prd_snoc ?_ (kq hr5), by simp, two_app h2 hc2, fun x hx => ?_⟩
        · exact ats_imp kq (kp_ats d4 k5 hA)
        · rcases List.mem_append.mp hx with hx | hx
          · exact hg x hx
          · rw [List.mem_singleton.mp hx]; exact hc
      walk_at "go"
      refine i_d (fun h0 => ?_) (fun h0 => ?_)
      · rw [List.length_map, lq] at h0
        obtain ⟨w9, c, hw, hc, hR⟩ := prd_get hA (as.length - 1) (by omega)
        walk_at "go"
        refine e_ixL (v := .ref w9) (SqL.of e4) (at_lastR hw (by omega)) ?_
        walk_at "go"
        refine e_ixT hR (v := .bl c.2) rfl ?_
        walk_at "go"
        refine ⟨_, _, _, rfl, st, sc, ns, c.2, rfl, rfl, rfl, d4, fun r c2 H5 g1 g2 k5 d5 h5 => ?_⟩
        walk_at "go"
        refine put r c2 H5 g1 (fun n hn hr => g2 ?_) k5 d5 h5
        have e9 : as.length - 1 = n := by omega
        rw [e9] at hc
        unfold rep at hr
        rw [hc] at hr
        exact hr
      · rw [List.length_map, lq] at h0
        walk_at "go"
        refine ⟨_, _, _, rfl, st, sc, ns, false, rfl, rfl, rfl, d4, fun r c2 H5 g1 g2 k5 d5 h5 => ?_⟩
        walk_at "go"
        exact put r c2 H5 g1 (fun n hn hr => by omega) k5 d5 h5
    · obtain ⟨⟨v, rfl⟩, k4, d4, qs, as, e4, hA, rfl, h2, hg⟩ := q
      walk_at "go"
      exact k D as H4 hg h2 hn1 hn k4 d4 hD ⟨qs, e4, hA⟩
theorem ok_law_name (T : Txt K mg)  (c_law_draw : Cal P w K mg base 1 "_law_draw" (spDraw K)) {f : Addr} {fd : FuncData} (F : FnP K "_law_name" s_law_name f fd) : FnOk P w K mg base CX0 2 f fd ["state", "script", "atoms"] (sp_law_name K) := by
  refine F.ok sc_law_name (fun vs H Q E h => ?_) (fun cdv A outer s H vs Q E hr h => ?_)
  · obtain ⟨_, _, _, rfl, _⟩ := h
    rfl
  · have S := sc_law_name
    refine ⟨_, PSs.nox (pss_cons (ps_set (i := 3) S.nd rfl (by first | exact .inl rfl | exact .inr rfl) pe_str)
    (pss_cons (ps_for PassesOwn.never rfl (pi_list (pv 2)) (pg_tup rfl (pgs_cons (pg_name (i := 4) S.nd rfl (by first | exact .inl rfl | exact .inr rfl)) (pgs_cons (pg_name (i := 5) S.nd rfl (by first | exact .inl rfl | exact .inr rfl)) pgs_nil)))
    (pss_cons (ps_set (i := 6) S.nd rfl (by first | exact .inl rfl | exact .inr rfl) pe_int)
      (C8.pss_cut (ps_if (pt_val (pv 5))
      (pss_one (ps_set (i := 6) S.nd rfl (by first | exact .inl rfl | exact .inr rfl) (pe_c c_law_draw hr (by decide) (by rfl) (pa_cons (pv 0) (pa_cons (pv 1) (pa_cons pe_int pa_nil))))))
      pss_nil)
      (pss_one (ps_for PassesOwn.never rfl (pi_range1 (by rfl) T.f_range (pa_cons (pv 6) pa_nil)) (pg_name (i := 7) S.nd rfl (by first | exact .inl rfl | exact .inr rfl))
      (pss_one (ps_set (i := 3) S.nd rfl (by first | exact .inl rfl | exact .inr rfl) (pe_op op_add_str (pv 3) (pe_ix ix_str (pv 4) (pe_c c_law_draw hr (by decide) (by rfl) (pa_cons (pv 0) (pa_cons (pv 1) (pa_cons (pe_callB call_len_str (by rfl) T.f_len (by first | rfl | decide +kernel) (pa_cons (pv 4) pa_nil)) pa_nil)))) (fun _ _ => rfl))))))))))
    (pss_cons (ps_set (i := 8) S.nd rfl (by first | exact .inl rfl | exact .inr rfl) (pe_c c_law_draw hr (by decide) (by rfl) (pa_cons (pv 0) (pa_cons (pv 1) (pa_cons pe_int pa_nil)))))
    (pss_cons (ps_set (i := 9) S.nd rfl (by first | exact .inl rfl | exact .inr rfl) (pe_c c_law_draw hr (by decide) (by rfl) (pa_cons (pv 0) (pa_cons (pv 1) (pa_cons pe_int pa_nil)))))
    (pss_cons (ps_set (i := 10) S.nd rfl (by first | exact .inl rfl | exact .inr rfl) (pe_ix ix_str pe_str (pe_c c_law_draw hr (by decide) (by rfl) (pa_cons (pv 0) (pa_cons (pv 1) (pa_cons pe_int pa_nil)))) (fun _ _ => rfl)))
    (C8.pss_cut (ps_if (pw_and (pt_cmpR op_eq (pv 9) pe_int (nomark _)) (pw_and1 (pt_cmpR op_lt (pv 8) (pe_callB call_len_str (by rfl) T.f_len (by first | rfl | decide +kernel) (pa_cons (pv 3) pa_nil)) (nomark _)))).pt
    (pss_one (ps_set (i := 3) S.nd rfl (by first | exact .inl rfl | exact .inr rfl) (pe_op op_add_str (pe_op op_add_str (pe_slice sl_str (pv 3) po_none (po_some (pv 8))) (pv 10)) (pe_slice sl_str (pv 3) (po_some (pe_op op_add (pv 8) pe_int)) po_none))))
    pss_nil)
    (C8.pss_cut (ps_if (pt_cmpR op_eq (pv 9) pe_int (nomark _))
    (pss_one (ps_set (i := 3) S.nd rfl (by first | exact .inl rfl | exact .inr rfl) (pe_op op_add_str (pe_op op_add_str (pe_slice sl_str (pv 3) po_none (po_some (pv 8))) (pv 10)) (pe_slice sl_str (pv 3) (po_some (pv 8)) po_none))))
    pss_nil)
    (C8.pss_cut (ps_if (pt_cmpR op_eq (pv 9) pe_int (nomark _))
    (pss_one (ps_set (i := 3) S.nd rfl (by first | exact .inl rfl | exact .inr rfl) (pe_op op_add_str (pe_slice sl_str (pv 3) po_none (po_some (pv 8))) (pe_slice sl_str (pv 3) (po_some (pe_op op_add (pv 8) pe_int)) po_none))))
    pss_nil)
    (C8.pss_cut (ps_if (pt_cmpR op_eq (pv 3) pe_str (nomark _))
    (pss_one (ps_set (i := 3) S.nd rfl (by first | exact .inl rfl | exact .inr rfl) (pv 10)))
    pss_nil)
    (pss_one (ps_ret (pe_slice sl_str (pv 3) po_none (po_some pe_int))))))))))))), ?_⟩
    try dsimp only [cxOf, Cx.nox]
    obtain ⟨_, _, _, rfl, st, sc, ns, r, as, rfl, rfl, rfl, d, ⟨qs0, ha⟩, hl, hg, k⟩ := h
    walk_at "go"
    have hq : qs0.length = as.length := (ha H (Kp.refl _ _)).2.length
    refine ⟨r, rfl, ⟨_, (ha H (Kp.refl _ _)).1⟩, ?_⟩
    refine for_ats (fun pre σ H4 => (∃ (z : Str) (v4 v5 v6 v7 : Option V), z.length ≤ 3 * pre.length ∧ σ = [some (.ref st), some (.ref sc), some (.ref r), some (.str z), v4, v5, v6, v7, none, none, none]) ∧ Kp st H H4 ∧ Dr K st sc ns H4) ⟨⟨_, _, _, _, _, Nat.zero_le _, rfl⟩, Kp.refl _ _, d⟩ qs0 hq (fun pre σ H4 q => ha H4 q.2.1) (fun pre c post T σ H4 e q hT => ?_) (fun σ H4 q => ?_)
    · obtain ⟨⟨z, v4, v5, v6, v7, hz, rfl⟩, k4, d4⟩ := q
      have hc := hg c (by rw [e]; simp)
      have lp : pre.length ≤ 39 := by
        have := congrArg List.length e
        rw [List.length_append, List.length_cons] at this
        omega
      walk_at "go"
      refine e_cut (Mid := fun σ' H' => ∃ m : Int, 0 ≤ m ∧ m ≤ 3 ∧ σ' = [some (.ref st), some (.ref sc), some (.ref r), some (.str z), some (.str c.1), some (.bl c.2), some (.int m), v7, none, none, none] ∧ Kp st H H' ∧ Dr K st sc ns H') ?_ ?_
      · walk_at "go"
        refine i_b (fun h1 => ?_) (fun h1 => ?_)
        · walk_at "go"
          intro v1 H1 a1 b1 k1 d1
          walk_at "go"
          exact ⟨v1, a1, by omega, rfl, k4.trans k1, d1⟩
        · walk_at "go"
          exact ⟨1, by decide, by decide, rfl, k4, d4⟩
      rintro σ' H' ⟨m, m0, m3, rfl, k5, d5⟩
      walk_at "go"
      have hm : m.toNat ≤ 3 := by omega
      generalize m.toNat = mm at hm ⊢
      refine for_rng (fun i σ H4 => (∃ (z2 : Str) (v7 : Option V), z2.length ≤ z.length + i ∧ σ = [some (.ref st), some (.ref sc), some (.ref r), some (.str z2), some (.str c.1), some (.bl c.2), some (.int m), v7, none, none, none]) ∧ Kp st H H4 ∧ Dr K st sc ns H4) ⟨⟨z, _, Nat.le_refl _, rfl⟩, k5, d5⟩ (fun i σ H6 hi q => ?_) (fun σ H6 q => ?_)
      · obtain ⟨⟨z2, w7, hz2, rfl⟩, k6, d6⟩ := q
        have l1 := hc.1
        have l2 := hc.2
        walk_at "go"
        intro v1 H1 a1 b1 k1 d1
        obtain ⟨u, hu, eu⟩ := pick_sign a1 b1
        refine e_ixS (sz_of (by omega)) eu ?_
        have one : (⟨#[u]⟩ : Str).length = 1 := rfl
        refine ⟨_, _, rfl, rfl, sz_of (by rw [one]; omega), ?_⟩
        walk_at "go"
        exact ⟨⟨_, _, by rw [len_app, one]; omega, rfl⟩, k6.trans k1, d1⟩
      · obtain ⟨⟨z2, w7, hz2, rfl⟩, k6, d6⟩ := q
        exact ⟨⟨z2, _, _, _, _, by rw [List.length_append]; simp; omega, rfl⟩, k6, d6⟩
    · obtain ⟨⟨z, v4, v5, v6, v7, hz, rfl⟩, k4, d4⟩ := q
      have hz : z.length ≤ 120 := by omega
      walk_at "go"
      intro v1 H1 a1 b1 k1 d1
      walk_at "go"
      intro v2 H2 a2 b2 k2 d2
      walk_at "go"
      intro v3 H3 a3 b3 k3 d3
      obtain ⟨u, hu, eu⟩ := pick_sign (z := ("ab/.~x" : Str)) a3 b3
      refine e_ixS (sz_of (by decide)) eu ?_
      have one : (⟨#[u]⟩ : Str).length = 1 := rfl
      have kk := k4.trans (k1.trans (k2.trans k3))
      clear k1 k2 k3 d1 d2 k4 d4
      walk_at "go"
      have cut : ∀ {y : Str} lo hi, (cutS y lo hi).length ≤ y.length := fun lo hi => cutS_length _ _ _
      refine e_cut (Mid := fun σ' H' => ∃ y : Str, y.length ≤ 241 ∧ σ' = [some (.ref st), some (.ref sc), some (.ref r), some (.str y), v4, v5, v6, v7, some (.int v1), some (.int v2), some (.str ⟨#[u]⟩)] ∧ H' = H3) ?_ ?_
      · walk_at "go"
        have c1 := cut (y := z) none (some v1)
        have c2 := cut (y := z) (some (v1 + 1)) none
        refine i_d (fun h1 => ?_) (fun h1 => ?_)
        · walk_at "go"
          refine i_d (fun h2 => ?_) (fun h2 => ?_)
          · walk_at "go"
            refine ⟨_, _, rfl, rfl, sz_of (by rw [one]; omega), ?_⟩
            walk_at "go"
            refine ⟨_, _, rfl, rfl, sz_of (by rw [len_app, one]; omega), ?_⟩
            walk_at "go"
            exact ⟨_, by rw [len_app, len_app, one]; omega, rfl, rfl⟩
          · walk_at "go"
            exact ⟨_, by omega, rfl, rfl⟩
        · walk_at "go"
          exact ⟨_, by omega, rfl, rfl⟩
      rintro σ' H' ⟨y, hy, rfl, rfl⟩
      refine e_cut (Mid := fun σ' H'' => ∃ y : Str, y.length ≤ 500 ∧ σ' = [some (.ref st), some (.ref sc), some (.ref r), some (.str y), v4, v5, v6, v7, some (.int v1), some (.int v2), some (.str ⟨#[u]⟩)] ∧ H'' = H') ?_ ?_
      · walk_at "go"
        have c1 := cut (y := y) none (some v1)
        have c2 := cut (y := y) (some v1) none
        refine i_d (fun h1 => ?_) (fun h1 => ?_)
        · walk_at "go"
          refine ⟨_, _, rfl, rfl, sz_of (by rw [one]; omega), ?_⟩
          walk_at "go"
          refine ⟨_, _, rfl, rfl, sz_of (by rw [len_app, one]; omega), ?_⟩
          walk_at "go"
          exact ⟨_, by rw [len_app, len_app, one]; omega, rfl, rfl⟩
        · walk_at "go"
          exact ⟨_, by omega, rfl, rfl⟩
      rintro σ' H'' ⟨y2, hy2, rfl, rfl⟩
      refine e_cut (Mid := fun σ' H' => ∃ y : Str, y.length ≤ 1000 ∧ σ' = [some (.ref st), some (.ref sc), some (.ref r), some (.str y), v4, v5, v6, v7, some (.int v1), some (.int v2), some (.str ⟨#[u]⟩)] ∧ H' = H'') ?_ ?_
      · walk_at "go"
        have c1 := cut (y := y2) none (some v1)
        have c2 := cut (y := y2) (some (v1 + 1)) none
        refine i_d (fun h1 => ?_) (fun h1 => ?_)
        · walk_at "go"
          refine ⟨_, _, rfl, rfl, sz_of (by omega), ?_⟩
          walk_at "go"
          exact ⟨_, by rw [len_app]; omega, rfl, rfl⟩
        · walk_at "go"
          exact ⟨_, by omega, rfl, rfl⟩
      rintro σ' H' ⟨y3, hy3, rfl, rfl⟩
      refine e_cut (Mid := fun σ' H'' => ∃ y : Str, y.length ≤ 1000 ∧ σ' = [some (.ref st), some (.ref sc), some (.ref r), some (.str y), v4, v5, v6, v7, some (.int v1), some (.int v2), some (.str ⟨#[u]⟩)] ∧ H'' = H') ?_ ?_
      · walk_at "go"
        refine i_d (fun h1 => ?_) (fun h1 => ?_)
        · walk_at "go"
          exact ⟨_, by rw [one]; decide, rfl, rfl⟩
        · walk_at "go"
          exact ⟨_, by omega, rfl, rfl⟩
      rintro σ' H'' ⟨y4, hy4, rfl, rfl⟩
      walk_at "go"
      exact k _ _ (cut_top (n := 40)) kk d3
theorem ok_law_table (T : Txt K mg)   {f : Addr} {fd : FuncData} (F : FnP K "_law_table" s_law_table f fd) : FnOk P w K mg base CX0 1 f fd ["atoms", "name"] (sp_law_table K) := by
  refine F.ok sc_law_table (fun vs H Q E h => ?_) (fun cdv A outer s H vs Q E hr h => ?_)
  · obtain ⟨_, _, rfl, _⟩ := h
    rfl
  · have S := sc_law_table
    refine ⟨_, PSs.nox (pss_cons (ps_set (i := 2) S.nd rfl (by first | exact .inl rfl | exact .inr rfl) (pe_lst (pa_cons (pe_op op_cat (pe_lst (pa_cons pe_bl pa_nil)) (pe_op op_rep (pe_lst (pa_cons pe_bl pa_nil)) (pe_callB call_len_str (by rfl) T.f_len (by first | rfl | decide +kernel) (pa_cons (pv 1) pa_nil)))) pa_nil)))
    (pss_cons (ps_for PassesOwn.never rfl (pi_list (pv 0)) (pg_tup rfl (pgs_cons (pg_name (i := 3) S.nd rfl (by first | exact .inl rfl | exact .inr rfl)) (pgs_cons (pg_name (i := 4) S.nd rfl (by first | exact .inl rfl | exact .inr rfl)) pgs_nil)))
    (pss_cons (ps_set (i := 5) S.nd rfl (by first | exact .inl rfl | exact .inr rfl) (pe_ix ix_list (pv 2) (pe_un un_neg pe_int) (fun _ _ => rfl)))
      (pss_cons (ps_set (i := 6) S.nd rfl (by first | exact .inl rfl | exact .inr rfl) (pe_lst (pa_cons (pe_and (pv 4) (pe_one (pe_ix ix_list (pv 5) pe_int (fun _ _ => rfl)))) pa_nil)))
      (pss_cons (ps_for PassesOwn.never rfl (pi_range1 (by rfl) T.f_range (pa_cons (pe_callB call_len_str (by rfl) T.f_len (by first | rfl | decide +kernel) (pa_cons (pv 1) pa_nil)) pa_nil)) (pg_name (i := 7) S.nd rfl (by first | exact .inl rfl | exact .inr rfl))
      (pss_one (ps_if (pt_val (pv 4))
        (pss_one (ps_expr (pe_bm PySem.F.plainAttrs_list PySem.F.slot_list_append PySem.F.type_list_append mt_append (pv 6) (pa_cons (pe_or (pe_ix ix_list (pv 5) (pe_op op_add (pv 7) pe_int) (fun _ _ => rfl)) (pe_one (pe_and (pe_ix ix_list (pv 6) (pv 7) (fun _ _ => rfl)) (pe_one (pe_cmpR op_in_sign (pe_ix ix_str (pv 1) (pv 7) (fun _ _ => rfl)) (pv 3) (by first | rfl | with_unfolding_all rfl)))))) pa_nil))))
        (pss_one (ps_expr (pe_bm PySem.F.plainAttrs_list PySem.F.slot_list_append PySem.F.type_list_append mt_append (pv 6) (pa_cons (pe_and (pe_ix ix_list (pv 5) (pv 7) (fun _ _ => rfl)) (pe_one (pe_cmpR op_in_sign (pe_ix ix_str (pv 1) (pv 7) (fun _ _ => rfl)) (pv 3) (by first | rfl | with_unfolding_all rfl)))) pa_nil)))))))
      (pss_one (ps_expr (pe_bm PySem.F.plainAttrs_list PySem.F.slot_list_append PySem.F.type_list_append mt_append (pv 2) (pa_cons (pv 6) pa_nil))))))))
    (pss_one (ps_ret (pv 2))))), ?_⟩
    try dsimp only [cxOf, Cx.nox]
    obtain ⟨_, _, rfl, a, as, z, rfl, rfl, ⟨qs, hS, hA⟩, hl, hz, k⟩ := h
    have lz : z.cps.toList.length = z.length := by simp [Str.length]
    walk_at "go"
    rename_i p1 hp1 p2 hp2
    refine ⟨p2, _, _, rfl, rfl, upd_same, by omega, by omega, sz_of (by show 1 * _ ≤ _; omega), fun p3 hp3 => ?_⟩
    have n12 : p1 ≠ p2 := ne_of_none (upd_same) hp2
    have s3 := (same_new (o := .lst [V.bl true]) hp1).trans ((same_new (o := .lst [V.bl false]) hp2).trans (same_new (o := .lst (List.replicate (z.length : Int).toNat [V.bl false]).flatten) hp3))
    have e1 := ((same_new (o := .lst [V.bl false]) hp2).trans (same_new (o := .lst (List.replicate (z.length : Int).toNat [V.bl false]).flatten) hp3)) p1 _ upd_same
    refine ⟨p1, p3, _, _, rfl, rfl, e1, upd_same, sz_of (by rw [rep_false, List.length_map, List.length_range]; show 1 + _ ≤ _; omega), fun p4 hp4 => ?_⟩
    have s4 := s3.trans (same_new (o := .lst ([V.bl true] ++ (List.replicate (z.length : Int).toNat [V.bl false]).flatten)) hp4)
    have e4 : (upd (upd (upd (upd H p1 (.lst [V.bl true])) p2 (.lst [V.bl false])) p3 (.lst (List.replicate (z.length : Int).toNat [V.bl false]).flatten)) p4 (.lst ([V.bl true] ++ (List.replicate (z.length : Int).toNat [V.bl false]).flatten))) p4 = some (.lst (rowTb as z 0)) := by
      rw [upd_same, rep_false, Int.toNat_natCast]
      unfold rowTb
      rw [lz, List.range_succ_eq_map, List.map_cons, List.map_map]
      rfl
    generalize upd (upd (upd (upd H p1 (.lst [V.bl true])) p2 (.lst [V.bl false])) p3 (.lst (List.replicate (z.length : Int).toNat [V.bl false]).flatten)) p4 (.lst ([V.bl true] ++ (List.replicate (z.length : Int).toNat [V.bl false]).flatten)) = H4 at s4 e4 ⊢
    clear s3 e1 n12 hp1 hp2 hp3 hp4
    walk_at "go"
    rename_i R hR0
    have hR1 : H R = none := s4.free hR0
    have s5 := s4.trans (same_new (o := .lst [.ref p4]) hR0)
    have e5 := same_new (o := .lst [.ref p4]) hR0 _ _ e4
    refine ⟨a, rfl, ⟨_, s5.seq hS⟩, ?_⟩
    refine for_ats (fun pre σ H6 => (∃ v3 v4 v5 v6 v7 : Option V, σ = [some (.ref a), some (.str z), some (.ref R), v3, v4, v5, v6, v7]) ∧ Same H H6 ∧ Tab K H6 R as z pre.length) ⟨⟨_, _, _, _, _, rfl⟩, s5, [p4], upd_same, rfl, fun k p hk => ?_⟩ qs hA.length (fun pre σ H6 q => ⟨q.2.1.seq hS, ats_same q.2.1 hA⟩) (fun pre c post T0 σ H6 e q hT => ?_) (fun σ H6 q => ?_)
    · cases k with
      | zero => cases (Option.some.inj hk); exact e5
      | succ k => simp at hk
    · obtain ⟨⟨v3, v4, v5, v6, v7, rfl⟩, s6, ps, e6, l6, r6⟩ := q
      have hc : as[pre.length]? = some c := by rw [e, List.getElem?_append_right (Nat.le_refl _), Nat.sub_self]; rfl
      have er : rep as pre.length = c.2 := by unfold rep; rw [hc]; rfl
      have lp : pre.length < 40 := by
        have := congrArg List.length e
        rw [List.length_append, List.length_cons] at this
        omega
      obtain ⟨w, hw⟩ : ∃ w, ps[pre.length]? = some w := ⟨_, List.getElem?_eq_getElem (by omega)⟩
      have ew := r6 _ _ hw
      walk_at "go"
      refine e_ixL (v := .ref w) (SqL.of e6) (at_lastR hw l6) ?_
      walk_at "go"
      have up : ∀ {H7 : Hp} (j : Nat) (i : Int), Same H6 H7 → j ≤ z.length → i = j → SqL K H7 w (rowTb as z pre.length) ∧ atI (rowTb as z pre.length) i = some (.bl (Tb as z.cps.toList pre.length j)) := fun {H7} j i s hj hi =>
        ⟨SqL.of (s _ _ ew), at_of (j := j) hi (by unfold rowTb; rw [List.getElem?_map, List.getElem?_range (by omega)]; rfl)⟩
      have fin : ∀ (W : Addr) (H7 : Hp) (x y : Option V), H6 W = none → Same H6 H7 → H7 W = some (.lst (rowTb as z (pre.length + 1))) → rAppend (.ref R) [.ref W] H7 fun _ H1 => (∃ v3 v4 v5 v6 v7 : Option V, [some (V.ref a), some (V.str z), some (V.ref R), some (V.str c.1), some (V.bl c.2), some (V.ref w), x, y] = [some (.ref a), some (.str z), some (.ref R), v3, v4, v5, v6, v7]) ∧ Same H H1 ∧ Tab K H1 R as z (pre ++ [c]).length := by
        intro W H7 x y hW s7 e7
        refine e_app (s7 _ _ e6) (small (by rw [List.length_map, l6]; omega : _ ≤ 40) (by decide)) ?_
        refine ⟨⟨_, _, _, _, _, rfl⟩, Same.mut (s6.trans s7) hR1, ps ++ [W], by rw [upd_same, List.map_append]; rfl, by rw [List.length_append, List.length_append, l6]; rfl, fun k p hk => ?_⟩
        have nR : ∀ (p : Addr) (k : Nat), H7 p = some (.lst (rowTb as z k)) → p ≠ R := fun p k h q => by
          rw [q, s7 _ _ e6] at h
          unfold rowTb at h
          rw [List.range_succ_eq_map] at h
          cases ps with
          | nil => simp at l6
          | cons p0 ps => simp at h
        by_cases hk2 : k < ps.length
        · rw [List.getElem?_append_left hk2] at hk
          have := s7 _ _ (r6 k p hk)
          rw [upd_ne (nR p k this)]
          exact this
        · rw [List.getElem?_append_right (by omega)] at hk
          by_cases hk3 : k = ps.length
          · rw [hk3, Nat.sub_self] at hk
            cases (Option.some.inj hk)
            rw [upd_ne (nR W _ e7), hk3, l6]
            exact e7
          · rw [List.getElem?_eq_none (by simp; omega)] at hk
            cases hk
      obtain ⟨cs, r⟩ := c
      have last : ∀ (i : Nat), ((List.range (i + 1)).map fun j => V.bl (Tb as z.cps.toList (pre.length + 1) j)) ++ [V.bl (Tb as z.cps.toList (pre.length + 1) (i + 1))] = (List.range (i + 1 + 1)).map fun j => V.bl (Tb as z.cps.toList (pre.length + 1) j) := fun i => by
        rw [List.range_succ (n := i + 1), List.map_append]
        rfl
      have hu : ∀ i, i < z.length → ∃ u, z.cps.toList[i]? = some u := fun i hi => ⟨_, List.getElem?_eq_getElem (by omega)⟩
      cases r with
      | true =>
        have er : rep as pre.length = true := er
        walk_at "go"
        obtain ⟨u1, u2⟩ := up 0 0 (Same.refl H6) (by omega) rfl
        refine e_ixL u1 u2 ?_
        walk_at "go"
        rename_i W hW
        refine for_rng (fun i σ H7 => (∃ v7, σ = [some (.ref a), some (.str z), some (.ref R), some (.str cs), some (.bl true), some (.ref w), some (.ref W), v7]) ∧ Same H6 H7 ∧ H7 W = some (.lst ((List.range (i + 1)).map fun j => V.bl (Tb as z.cps.toList (pre.length + 1) j)))) ⟨⟨_, rfl⟩, same_new hW, ?_⟩ (fun i σ H7 hi q => ?_) (fun σ H7 q => ?_)
        · rw [upd_same]
          show some (HO.lst [V.bl (Tb as z.cps.toList pre.length 0)]) = some (HO.lst [V.bl (rep as pre.length && Tb as z.cps.toList pre.length 0)])
          rw [er]; rfl
        · obtain ⟨⟨v7, rfl⟩, s7, e7⟩ := q
          have hi : i < z.length := by simpa using hi
          have key : Tb as z.cps.toList (pre.length + 1) (i + 1) = (Tb as z.cps.toList pre.length (i + 1) || (Tb as z.cps.toList (pre.length + 1) i && inA as z.cps.toList pre.length i)) := by
            show (if rep as pre.length = true then _ else _) = _
            rw [if_pos er]
            rfl
          have sz : ((List.range (i + 1)).map fun j => V.bl (Tb as z.cps.toList (pre.length + 1) j)).length < sizeLine := small (by rw [List.length_map, List.length_range]; omega : _ ≤ 50) (by decide)
          have put : ∀ b : Bool, b = Tb as z.cps.toList (pre.length + 1) (i + 1) → rAppend (.ref W) [.bl b] H7 fun _ H1 => (∃ v7' : Option V, [some (V.ref a), some (V.str z), some (V.ref R), some (V.str cs), some (V.bl true), some (V.ref w), some (V.ref W), some (V.int (0 + (i : Nat)))] = [some (.ref a), some (.str z), some (.ref R), some (.str cs), some (.bl true), some (.ref w), some (.ref W), v7']) ∧ Same H6 H1 ∧ H1 W = some (.lst ((List.range (i + 1 + 1)).map fun j => V.bl (Tb as z.cps.toList (pre.length + 1) j))) := by
            intro b hb
            refine e_app e7 sz ?_
            exact ⟨⟨_, rfl⟩, Same.mut s7 hW, by rw [upd_same, hb, last]⟩
          walk_at "go"
          obtain ⟨u1, u2⟩ := up (i + 1) (0 + (i : Int) + 1) s7 (by omega) (by omega)
          refine e_ixL u1 u2 ?_
          walk_at "go"
          refine i_b (fun h1 => ?_) (fun h1 => ?_)
          · walk_at "go"
            exact put true (by rw [key, h1]; rfl)
          · walk_at "go"
            refine e_ixL (v := .bl (Tb as z.cps.toList (pre.length + 1) i)) (SqL.of e7) (at_of (j := i) (by omega) (by rw [List.getElem?_map, List.getElem?_range (show i < i + 1 by omega)]; rfl)) ?_
            walk_at "go"
            refine i_b (fun h2 => ?_) (fun h2 => ?_)
            · walk_at "go"
              obtain ⟨u, hu⟩ := hu i hi
              refine e_ixS (sz_of (by omega)) (at_ofN (j := i) (by omega) hu) ?_
              walk_at "go"
              refine ⟨u, cs, rfl, rfl, ?_⟩
              walk_at "go"
              exact put _ (by rw [key, h1, h2]; unfold inA; rw [hc, hu]; rfl)
            · walk_at "go"
              exact put false (by rw [key, h1, h2]; rfl)
        · obtain ⟨⟨v7, rfl⟩, s7, e7⟩ := q
          have eR := s7 _ _ e6
          walk_at "go"
          refine fin W H7 _ _ hW s7 ?_
          unfold rowTb
          rw [lz]
          exact e7
      | false =>
        have er : rep as pre.length = false := er
        walk_at "go"
        rename_i W hW
        refine for_rng (fun i σ H7 => (∃ v7, σ = [some (.ref a), some (.str z), some (.ref R), some (.str cs), some (.bl false), some (.ref w), some (.ref W), v7]) ∧ Same H6 H7 ∧ H7 W = some (.lst ((List.range (i + 1)).map fun j => V.bl (Tb as z.cps.toList (pre.length + 1) j)))) ⟨⟨_, rfl⟩, same_new hW, ?_⟩ (fun i σ H7 hi q => ?_) (fun σ H7 q => ?_)
        · rw [upd_same]
          show some (HO.lst [V.bl false]) = some (HO.lst [V.bl (rep as pre.length && Tb as z.cps.toList pre.length 0)])
          rw [er]; rfl
        · obtain ⟨⟨v7, rfl⟩, s7, e7⟩ := q
          have hi : i < z.length := by simpa using hi
          have key : Tb as z.cps.toList (pre.length + 1) (i + 1) = (Tb as z.cps.toList pre.length i && inA as z.cps.toList pre.length i) := by
            show (if rep as pre.length = true then _ else _) = _
            rw [if_neg (by rw [er]; exact Bool.false_ne_true)]
          have sz : ((List.range (i + 1)).map fun j => V.bl (Tb as z.cps.toList (pre.length + 1) j)).length < sizeLine := small (by rw [List.length_map, List.length_range]; omega : _ ≤ 50) (by decide)
          have put : ∀ b : Bool, b = Tb as z.cps.toList (pre.length + 1) (i + 1) → rAppend (.ref W) [.bl b] H7 fun _ H1 => (∃ v7' : Option V, [some (V.ref a), some (V.str z), some (V.ref R), some (V.str cs), some (V.bl false), some (V.ref w), some (V.ref W), some (V.int (0 + (i : Nat)))] = [some (.ref a), some (.str z), some (.ref R), some (.str cs), some (.bl false), some (.ref w), some (.ref W), v7']) ∧ Same H6 H1 ∧ H1 W = some (.lst ((List.range (i + 1 + 1)).map fun j => V.bl (Tb as z.cps.toList (pre.length + 1) j))) := by
            intro b hb
            refine e_app e7 sz ?_
            exact ⟨⟨_, rfl⟩, Same.mut s7 hW, by rw [upd_same, hb, last]⟩
          walk_at "go"
          obtain ⟨u1, u2⟩ := up i (0 + (i : Int)) s7 (by omega) (by omega)
          refine e_ixL u1 u2 ?_
          walk_at "go"
          refine i_b (fun h1 => ?_) (fun h1 => ?_)
          · walk_at "go"
            obtain ⟨u, hu⟩ := hu i hi
            refine e_ixS (sz_of (by omega)) (at_ofN (j := i) (by omega) hu) ?_
            walk_at "go"
            refine ⟨u, cs, rfl, rfl, ?_⟩
            walk_at "go"
            exact put _ (by rw [key, h1]; unfold inA; rw [hc, hu]; rfl)
          · walk_at "go"
            exact put false (by rw [key, h1]; rfl)
        · obtain ⟨⟨v7, rfl⟩, s7, e7⟩ := q
          have eR := s7 _ _ e6
          walk_at "go"
          refine fin W H7 _ _ hW s7 ?_
          unfold rowTb
          rw [lz]
          exact e7
    · obtain ⟨⟨v3, v4, v5, v6, v7, rfl⟩, s6, q⟩ := q
      walk_at "go"
      exact k R H6 hR1 s6 q
theorem ok_law_due (T : Txt K mg)  (c_law_table : Cal P w K mg base 1 "_law_table" (sp_law_table K)) {f : Addr} {fd : FuncData} (F : FnP K "_law_due" s_law_due f fd) : FnOk P w K mg base CX0 2 f fd ["rows", "name"] (sp_law_due K) := by
  refine F.ok sc_law_due (fun vs H Q E h => ?_) (fun cdv A outer s H vs Q E hr h => ?_)
  · obtain ⟨_, _, rfl, _⟩ := h
    rfl
  · have S := sc_law_due
    refine ⟨_, PSs.nox (pss_cons (ps_for PassesOwn.never rfl (pi_list (pv 0)) (pg_tup rfl (pgs_cons (pg_name (i := 2) S.nd rfl (by first | exact .inl rfl | exact .inr rfl)) (pgs_cons (pg_name (i := 3) S.nd rfl (by first | exact .inl rfl | exact .inr rfl)) pgs_nil)))
    (pss_one (ps_if (pt_val (pe_ix ix_list (pe_ix ix_list (pe_c c_law_table hr (by decide) (by rfl) (pa_cons (pv 2) (pa_cons (pv 1) pa_nil))) (pe_un un_neg pe_int) (fun _ _ => rfl)) (pe_un un_neg pe_int) (fun _ _ => rfl)))
      (pss_one (ps_ret (pe_not (pv 3))))
      pss_nil)))
    (pss_one (ps_ret pe_bl))), ?_⟩
    try dsimp only [cxOf, Cx.nox]
    obtain ⟨_, _, rfl, R, cs, z, rfl, rfl, ⟨ps, hS, hP⟩, ⟨hcl, hc⟩, hz, k⟩ := h
    have lz : z.cps.toList.length = z.length := by simp [Str.length]
    walk_at "go"
    refine for_prd (RowAt K) (fun pre σ H4 => (∃ v2 v3, σ = [some (.ref R), some (.str z), v2, v3]) ∧ Same H H4 ∧ ∀ c ∈ pre, mat c.1 z = false) ⟨⟨_, _, rfl⟩, Same.refl H, fun c hc => by cases hc⟩ ps hP.length (fun pre σ H4 q => ⟨q.2.1.seq hS, ras_same q.2.1 hP⟩) (fun pre c post T0 σ H4 e q hT => ?_) (fun σ H4 q => ?_)
    · obtain ⟨⟨v2, v3, rfl⟩, s4, h4⟩ := q
      obtain ⟨a, hT1, hT2⟩ := hT
      obtain ⟨hc1, hc2⟩ := hc c (by rw [e]; simp)
      walk_at "go"
      refine ⟨_, _, rfl, a, c.1, z, rfl, rfl, hT2, hc1, hz, fun R7 H7 hR s7 hTb => ?_⟩
      obtain ⟨qs, eR, lps, rows⟩ := hTb
      obtain ⟨w, hw⟩ : ∃ w, qs[c.1.length]? = some w := ⟨_, List.getElem?_eq_getElem (by omega)⟩
      have ew := rows _ _ hw
      have lastc : atI (rowTb c.1 z c.1.length) (-1) = some (.bl (Tb c.1 z.cps.toList c.1.length z.length)) := by
        unfold rowTb
        rw [List.range_succ, List.map_append, lz]
        exact atI_last _ _
      have hm : mat c.1 z = Tb c.1 z.cps.toList c.1.length z.length := by
        rw [← lz]
        exact mat_eq hc2
      walk_at "go"
      refine e_ixL (v := .ref w) (SqL.of eR) (at_lastR hw lps) ?_
      walk_at "go"
      refine e_ixL (SqL.of ew) lastc ?_
      rw [← hm]
      walk_at "go"
      refine i_b (fun h1 => ?_) (fun h1 => ?_)
      · walk_at "go"
        rw [e, lo_hit h4 h1] at k
        exact k _ (s4.trans s7)
      · walk_at "go"
        refine ⟨⟨_, _, rfl⟩, s4.trans s7, fun x hx => ?_⟩
        rcases List.mem_append.mp hx with hx | hx
        · exact h4 x hx
        · rw [List.mem_singleton.mp hx]; exact h1
    · obtain ⟨⟨v2, v3, rfl⟩, s4, h4⟩ := q
      walk_at "go"
      rw [lo_miss h4] at k
      exact k _ s4
theorem ok_law_kept (T : Txt K mg) (c_Pattern : C8.Mak P w K mg base 1 "Pattern" (He.ga K "Pattern") (sp_Pattern___init__ K) []) (cd_Pattern : C8.Mak P w K mg base 1 "Pattern" (He.ga K "Pattern") (sp_Pattern___init__ K) [.bl false])  (c_leaves_out : Cal P w K mg base 4 "leaves_out" (sp_leaves_out K)) (c_law_told : Cal P w K mg base 1 "_law_told" (sp_law_told K)) (c_law_due : Cal P w K mg base 2 "_law_due" (sp_law_due K)) (e_Pattern : EqC P w K mg base 1 "Pattern" (sp_Pattern___eq__ K)) {f : Addr} {fd : FuncData} (F : FnP K "_law_kept" s_law_kept f fd) : FnOk P w K mg base CX0 5 f fd ["rows", "name"] (sp_law_kept K) := by
  refine F.ok sc_law_kept (fun vs H Q E h => ?_) (fun cdv A outer s H vs Q E hr h => ?_)
  · obtain ⟨_, _, rfl, _⟩ := h
    rfl
  · have S := sc_law_kept
    refine ⟨_, PSs.nox (pss_cons (ps_setLc (i := 2) (own := [("atoms", 6), ("negated", 7)]) (g := gTup K 2 (gCons (gName 6) (gCons (gName 7) gNil))) (tt := tYes) rfl S.nd rfl rfl (sw_true rfl rfl rfl (by decide +kernel)) (pi_list (pv 0)) (blkOk_by (N := N_law_kept) (sc := defScope s_law_kept) (by decide +kernel)) (fun _ _ _ _ _ => (pg_tupK (n := 2) K rfl (pgs_cons (pg_name (i := 6) S.nd rfl (by first | exact .inl rfl | exact .inr rfl)) (pgs_cons (pg_name (i := 7) S.nd rfl (by first | exact .inl rfl | exact .inr rfl)) pgs_nil)))) (fun _ _ _ _ _ => pts_nil) (fun _ _ _ _ _ => (C8.pe_mk c_Pattern hr (by decide) (by rfl) (pa_cons (pv 6) (pa_cons (pv 7) pa_nil)))))
    (pss_cons (ps_set (i := 3) S.nd rfl (by first | exact .inl rfl | exact .inr rfl) (pe_callTy call_list_of (by rfl) T.f_list (by first | rfl | decide +kernel) (pa_cons (pv 2) pa_nil)))
    (pss_cons (ps_set (i := 4) S.nd rfl (by first | exact .inl rfl | exact .inr rfl) (pe_c c_leaves_out hr (by decide) (by rfl) (pa_cons (pv 3) (pa_cons (pv 1) pa_nil))))
    (pss_cons (ps_if (pw_or (pt_not (pt_val (pe_c c_law_told hr (by decide) (by rfl) (pa_cons (pv 4) (pa_cons (pe_c c_law_due hr (by decide) (by rfl) (pa_cons (pv 0) (pa_cons (pv 1) pa_nil))) pa_nil))))) (pw_or1 (pt_cmpR op_ne (pe_callB call_len_seq (by rfl) T.f_len (by first | rfl | decide +kernel) (pa_cons (pv 3) pa_nil)) (pe_callB call_len_seq (by rfl) T.f_len (by first | rfl | decide +kernel) (pa_cons (pv 0) pa_nil)) (nomark _)))).pt
    (pss_one (ps_ret pe_bl))
    pss_nil)
    (pss_cons (ps_for PassesOwn.never rfl (pi_range1 (by rfl) T.f_range (pa_cons (pe_callB call_len_seq (by rfl) T.f_len (by first | rfl | decide +kernel) (pa_cons (pv 0) pa_nil)) pa_nil)) (pg_name (i := 5) S.nd rfl (by first | exact .inl rfl | exact .inr rfl))
    (pss_one (ps_if (pw_or (pt_not (pt_cmpR (op_eqC e_Pattern hr (by decide)) (pe_ix ix_list (pv 3) (pv 5) (fun _ _ => rfl)) (pe_ix ix_list (pv 2) (pv 5) (fun _ _ => rfl)) (nomark _))) (pw_or1 (pt_cmpR (op_neP hr.units) (pe_fld (pe_ix ix_list (pv 3) (pv 5) (fun _ _ => rfl)) rfl) (pe_callTy call_tuple_of (by rfl) T.f_tuple (by first | rfl | decide +kernel) (pa_cons (pe_ix ix_tup (pe_ix ix_list (pv 0) (pv 5) (fun _ _ => rfl)) pe_int (fun _ _ => rfl)) pa_nil)) (nomark _)))).pt
      (pss_one (ps_ret pe_bl))
      pss_nil)))
    (pss_one (ps_ret pe_bl))))))), ?_⟩
    try dsimp only [cxOf, Cx.nox]
    obtain ⟨_, _, rfl, R, cs, z, rfl, rfl, ⟨ps, hS, hP⟩, hok, hz, k⟩ := h
    have c1 := T.cl_Pattern
    have c2 := T.no_Pattern_atoms
    have c3 := T.no_Pattern_negated
    have ct := T.ct_Pattern
    have lp : ps.length = cs.length := hP.length
    walk_at "go"
    intro D hD
    obtain ⟨hcl, hc⟩ := id hok
    refine lc_list (xs := ps.map V.ref) (fun i H2 => Same H H2 ∧ ∃ us : List Addr, H2 D = some (.lst (us.map V.ref)) ∧ us.length = i ∧ Pas K H2 us (cs.take i)) ⟨same_new hD, [], upd_same, rfl, .nil⟩ (fun i H2 _ q => q.1.seq hS) (fun i x H2 hx q => ?_) (fun H2 q => ?_)
    · obtain ⟨s2, us, e2, l2, hU⟩ := q
      rw [List.getElem?_map] at hx
      obtain ⟨T0, hT, rfl⟩ := Option.map_eq_some_iff.mp hx
      have li := (List.getElem?_eq_some_iff.mp hT).1
      obtain ⟨T2, c, hT2, hc2, hR⟩ := prd_get (ras_same s2 hP) i (by omega)
      rw [hT] at hT2
      cases hT2
      obtain ⟨a, hT3, ⟨qs, hS3, hQ3⟩⟩ := hR
      walk_at "go"
      intro x dx hx hdx nx
      refine mk_pat hx hdx nx (.inl hS3) fun H3 s3 hP3 => ?_
      refine ⟨_, s3 _ _ e2, small (by rw [List.length_map]; omega : _ ≤ 100) (by decide), Same.mut (s2.trans s3) hD, us ++ [x], by rw [upd_same, List.map_append]; rfl, by simp [l2], ?_⟩
      rw [List.take_add_one, hc2]
      exact prd_snoc (pas_updL (s3 _ _ e2) (pas_same s3 hU)) ⟨qs, pat_updL (s3 _ _ e2) hP3, ats_imp (tup_updL (s3 _ _ e2)) (ats_same s3 hQ3)⟩
    · obtain ⟨s2, us, e2, l2, hU⟩ := q
      rw [List.length_map, lp, List.take_length] at hU
      rw [List.length_map] at l2
      walk_at "go"
      intro G hG
      have s3 := same_new (o := .lst (us.map V.ref)) hG
      have e3 : (upd H2 G (.lst (us.map V.ref))) G = some (.lst (us.map V.ref)) := upd_same
      generalize upd H2 G (.lst (us.map V.ref)) = H3 at s3 e3 ⊢
      walk_at "go"
      refine ⟨_, _, rfl, G, us, cs, z, rfl, rfl, SqL.of e3, pas_same s3 hU, fun c hc0 => Nat.le_trans (hc c hc0).1 (by decide), by omega, fun H4 s4 => ?_⟩
      have s04 := s2.trans (s3.trans s4)
      walk_at "go"
      refine ⟨_, _, rfl, R, cs, z, rfl, rfl, ⟨ps, s04.seq hS, ras_same s04 hP⟩, hok, hz, fun H5 s5 => ?_⟩
      have s05 := s04.trans s5
      have e5 := s5 _ _ (s4 _ _ e3)
      have f5 := s5 _ _ (s4 _ _ (s3 _ _ e2))
      have hU5 := pas_same (s3.trans (s4.trans s5)) hU
      have hS5 := s05.seq hS
      have hP5 := ras_same s05 hP
      clear s2 s3 s4 s5 e2 e3 hU s04
      walk_at "go"
      refine ⟨_, _, rfl, _, _, rfl, rfl, ?_⟩
      walk_at "go"
      refine i_nself ?_
      walk_at "go"
      refine i_nd (fun h1 => absurd ?_ h1) (fun h1 => ?_)
      · rw [List.length_map, List.length_map]; omega
      have lpm : (ps.map V.ref).length = cs.length := by rw [List.length_map]; exact lp
      walk_at "go"
      refine for_rng (fun i σ H6 => (∃ v4 v5 v6 v7 : Option V, σ = [some (.ref R), some (.str z), some (.ref D), some (.ref G), v4, v5, v6, v7]) ∧ Same H5 H6) ⟨⟨_, _, _, _, rfl⟩, Same.refl _⟩ (fun i σ H6 hi q => ?_) (fun σ H6 q => ?_)
      · obtain ⟨⟨v4, v5, v6, v7, rfl⟩, s6⟩ := q
        have hi : i < ps.length := by
          have : i < (((ps.map V.ref).length : Nat) : Int).toNat := hi
          rw [List.length_map] at this
          omega
        obtain ⟨x, c, hx, hc2, hX⟩ := prd_get (pas_same s6 hU5) i (by omega)
        obtain ⟨T2, c2, hT2, hc3, hR⟩ := prd_get (ras_same s6 hP5) i (by omega)
        rw [hc2] at hc3
        cases hc3
        obtain ⟨a, hT3, ⟨rs, hS3, hQ3⟩⟩ := hR
        walk_at "go"
        refine e_ixL (v := .ref x) (SqL.of (s6 _ _ e5)) (at_of (j := i) (by omega) (by rw [List.getElem?_map, hx]; rfl)) ?_
        walk_at "go"
        refine e_ixL (v := .ref x) (SqL.of (s6 _ _ f5)) (at_of (j := i) (by omega) (by rw [List.getElem?_map, hx]; rfl)) ?_
        refine e_eqPP hX hX ?_
        rw [decide_eq_true rfl, beq_self_eq_true, Bool.and_true]
        walk_at "go"
        refine e_ixL (v := .ref x) (SqL.of (s6 _ _ e5)) (at_of (j := i) (by omega) (by rw [List.getElem?_map, hx]; rfl)) ?_
        obtain ⟨qs, hX1, hX2⟩ := hX
        refine fld_atoms c1 c2 hX1 fun t ht => ?_
        walk_at "go"
        refine e_ixL (v := .ref T2) (s6.seq hS5) (at_of (j := i) (by omega) (by rw [List.getElem?_map, hT2]; rfl)) ?_
        walk_at "go"
        refine e_ixT hT3 (v := .ref a) rfl ?_
        walk_at "go"
        refine ⟨a, _, rfl, .inl ⟨hS3, fun l hl => ?_⟩⟩
        have s7 := same_new (o := .tup (rs.map V.ref)) hl
        refine e_neAT ⟨qs, SqT.of (s7 _ _ ht), ats_same s7 hX2⟩ ⟨rs, SqT.of upd_same, ats_same s7 hQ3⟩ ?_
        walk_at "go"
        refine i_neself ?_
        walk_at "go"
        exact ⟨⟨_, _, _, _, rfl⟩, s6.trans s7⟩
      · obtain ⟨⟨v4, v5, v6, v7, rfl⟩, s6⟩ := q
        walk_at "go"
        exact k _ (s05.trans s6)
theorem ok_law (T : Txt K mg)  (c_law_draw : Cal P w K mg base 1 "_law_draw" (spDraw K)) (c_law_atoms : Cal P w K mg base 3 "_law_atoms" (sp_law_atoms K)) (c_law_name : Cal P w K mg base 2 "_law_name" (sp_law_name K)) (c_law_all : Cal P w K mg base 1 "_law_all" (sp_law_all K)) (c_law_kept : Cal P w K mg base 5 "_law_kept" (sp_law_kept K)) {f : Addr} {fd : FuncData} (F : FnP K "law" s_law f fd) : FnOk P w K mg base CX0 6 f fd ["script"] (sp_law K) := by
  refine F.ok sc_law (fun vs H Q E h => ?_) (fun cdv A outer s H vs Q E hr h => ?_)
  · obtain ⟨_, rfl, _⟩ := h
    rfl
  · have S := sc_law
    refine ⟨_, PSs.nox (pss_cons (ps_set (i := 1) S.nd rfl (by first | exact .inl rfl | exact .inr rfl) (pe_lst (pa_cons pe_int (pa_cons pe_int pa_nil))))
    (pss_cons (ps_set (i := 2) S.nd rfl (by first | exact .inl rfl | exact .inr rfl) (pe_c c_law_draw hr (by decide) (by rfl) (pa_cons (pv 1) (pa_cons (pv 0) (pa_cons pe_int pa_nil)))))
    (C8.pss_cut (ps_if (pt_cmpR op_eq (pe_c c_law_draw hr (by decide) (by rfl) (pa_cons (pv 1) (pa_cons (pv 0) (pa_cons pe_int pa_nil)))) pe_int (nomark _))
    (pss_one (ps_set (i := 2) S.nd rfl (by first | exact .inl rfl | exact .inr rfl) (pe_op op_add pe_int (pe_c c_law_draw hr (by decide) (by rfl) (pa_cons (pv 1) (pa_cons (pv 0) (pa_cons pe_int pa_nil)))))))
    pss_nil)
    (pss_cons (ps_set (i := 3) S.nd rfl (by first | exact .inl rfl | exact .inr rfl) (pe_lst pa_nil))
    (pss_cons (ps_for PassesOwn.never rfl (pi_range1 (by rfl) T.f_range (pa_cons (pv 2) pa_nil)) (pg_name (i := 4) S.nd rfl (by first | exact .inl rfl | exact .inr rfl))
    (pss_cons (ps_set (i := 5) S.nd rfl (by first | exact .inl rfl | exact .inr rfl) (pe_c c_law_atoms hr (by decide) (by rfl) (pa_cons (pv 1) (pa_cons (pv 0) (pa_cons pe_int pa_nil)))))
      (pss_one (ps_expr (pe_bm PySem.F.plainAttrs_list PySem.F.slot_list_append PySem.F.type_list_append mt_append (pv 3) (pa_cons (pe_tup (pa_cons (pv 5) (pa_cons (pe_cmpR op_eq (pe_c c_law_draw hr (by decide) (by rfl) (pa_cons (pv 1) (pa_cons (pv 0) (pa_cons pe_int pa_nil)))) pe_int (nomark _)) pa_nil))) pa_nil))))))
    (pss_cons (ps_set (i := 6) S.nd rfl (by first | exact .inl rfl | exact .inr rfl) (pe_lst (pa_cons pe_str (pa_cons pe_str pa_nil))))
    (pss_cons (ps_for PassesOwn.never rfl (pi_range1 (by rfl) T.f_range (pa_cons pe_int pa_nil)) (pg_name (i := 4) S.nd rfl (by first | exact .inl rfl | exact .inr rfl))
    (pss_one (ps_if (pt_cmpR op_gt (pv 2) pe_int (nomark _))
      (pss_one (ps_expr (pe_bm PySem.F.plainAttrs_list PySem.F.slot_list_append PySem.F.type_list_append mt_append (pv 6) (pa_cons (pe_c c_law_name hr (by decide) (by rfl) (pa_cons (pv 1) (pa_cons (pv 0) (pa_cons (pe_ix ix_tup (pe_ix ix_list (pv 3) (pe_c c_law_draw hr (by decide) (by rfl) (pa_cons (pv 1) (pa_cons (pv 0) (pa_cons (pv 2) pa_nil)))) (fun _ _ => rfl)) pe_int (fun _ _ => rfl)) pa_nil)))) pa_nil))))
      pss_nil)))
    (pss_cons (ps_set (i := 7) S.nd rfl (by first | exact .inl rfl | exact .inr rfl) (pe_tup (pa_cons (pe_lst (pa_cons (pe_tup (pa_cons (pe_c0 c_law_all hr (by decide) (by rfl)) (pa_cons pe_bl pa_nil))) pa_nil)) (pa_cons pe_bl pa_nil))))
    (pss_cons (ps_for PassesOwn.never rfl (pi_list (pv 6)) (pg_name (i := 8) S.nd rfl (by first | exact .inl rfl | exact .inr rfl))
    (pss_cons (ps_if (pw_or (pt_not (pt_val (pe_c c_law_kept hr (by decide) (by rfl) (pa_cons (pv 3) (pa_cons (pv 8) pa_nil))))) (pw_or1 (pt_not (pt_val (pe_c c_law_kept hr (by decide) (by rfl) (pa_cons (pe_revL (pv 3)) (pa_cons (pv 8) pa_nil))))))).pt
      (pss_one (ps_ret pe_bl))
      pss_nil)
      (pss_one (ps_if (pw_and (pt_cmpR op_lt (pv 2) pe_int (nomark _)) (pw_and1 (pt_not (pt_val (pe_c c_law_kept hr (by decide) (by rfl) (pa_cons (pe_op op_cat (pv 3) (pe_lst (pa_cons (pv 7) pa_nil))) (pa_cons (pv 8) pa_nil))))))).pt
      (pss_one (ps_ret pe_bl))
      pss_nil))))
    (pss_one (ps_ret pe_bl))))))))))), ?_⟩
    try dsimp only [cxOf, Cx.nox]
    obtain ⟨_, rfl, sa, ns, rfl, hS, hlen, k⟩ := h
    walk_at "go"
    rename_i p hp
    have d0 : Dr K p sa ns (upd H p (.lst [.int 0, .int 0])) := Dr.start hS hp hlen
    generalize upd H p (.lst [.int 0, .int 0]) = H0 at d0 ⊢
    walk_at "go"
    intro v1 H1 a1 b1 k1 d1
    walk_at "go"
    refine e_cut (Mid := fun σ' H' => ∃ m : Int, 0 ≤ m ∧ m ≤ 20 ∧ σ' = [some (.ref sa), some (.ref p), some (.int m), none, none, none, none, none, none] ∧ Dr K p sa ns H') ?_ ?_
    · walk_at "go"
      intro v2 H2 a2 b2 k2 d2
      walk_at "go"
      refine i_d (fun h1 => ?_) (fun h1 => ?_)
      · walk_at "go"
        intro v3 H3 a3 b3 k3 d3
        walk_at "go"
        exact ⟨16 + v3, by omega, by omega, rfl, d3⟩
      · walk_at "go"
        exact ⟨v1, a1, by omega, rfl, d2⟩
    rintro σ' H2 ⟨m, m0, m1, rfl, d2⟩
    clear d0 d1 k1 a1 b1
    walk_at "go"
    rename_i D hD
    have nD : D ≠ p := d2.ne hD
    obtain ⟨mm, rfl⟩ : ∃ j : Nat, m = (j : Int) := ⟨m.toNat, by omega⟩
    refine for_rng (fun i σ H4 => (∃ v4 v5 : Option V, σ = [some (.ref sa), some (.ref p), some (.int (mm : Nat)), some (.ref D), v4, v5, none, none, none]) ∧ Kp p H2 H4 ∧ Dr K p sa ns H4 ∧ ∃ (ps : List Addr) (cs : List Row), H4 D = some (.lst (ps.map V.ref)) ∧ Paired (RowP K D H4) ps cs ∧ cs.length = i ∧ okC cs) ⟨⟨_, _, rfl⟩, Kp.new hD, d2.same (same_new hD), [], [], upd_same, .nil, rfl, fun c hc => by cases hc⟩ (fun i σ H4 hi q => ?_) (fun σ H4 q => ?_)
    · obtain ⟨⟨v4, v5, rfl⟩, k4, d4, ps, cs, e4, hP, rfl, hok⟩ := q
      have hi : cs.length < mm := by simpa using hi
      walk_at "go"
      refine ⟨_, _, _, rfl, p, sa, ns, 5, rfl, rfl, rfl, by decide, by decide, d4, fun r as H5 hg h2 l1 l2 k5 d5 hr hA => ?_⟩
      have e5 := k5 _ _ nD e4
      have nrD : r ≠ D := fun z => by rw [z, e4] at hr; cases hr
      walk_at "go"
      intro v6 H6 a6 b6 k6 d6
      have e6 := k6 _ _ nD e5
      walk_at "go"
      rename_i T0 hT0
      have s7 := same_new (o := .tup [.ref r, .bl (decide (v6 = 1))]) hT0
      have e7 := s7 _ _ e6
      have k07 := k4.trans ((k5.trans k6).trans (Kp.of s7))
      have d7 := d6.same s7
      have lp : ps.length = cs.length := hP.length
      refine e_app e7 (small (by rw [List.length_map]; omega : _ ≤ 100) (by decide)) ?_
      refine ⟨⟨_, _, rfl⟩, k07.mut hD, Dr.mut d2 d7 hD k07, ps ++ [T0], cs ++ [(as, decide (v6 = 1))], by rw [upd_same, List.map_append]; rfl, prd_snoc (prd_imp (fun _ _ q => (((q.kp d4 k5).kp d5 k6).same s7).upd e7) hP) (RowP.upd ⟨r, nrD, upd_same, (hA.kp d5 k6).same s7⟩ e7), by simp, fun c hc => ?_⟩
      rcases List.mem_append.mp hc with hc | hc
      · exact hok c hc
      · rw [List.mem_singleton.mp hc]
        exact ⟨l2, h2, hg⟩
    obtain ⟨⟨v4, v5, rfl⟩, k4, d4, ps, cs, e4, hP, hcl, hok⟩ := q
    have hcl : cs.length = mm := by simpa using hcl
    have lp : ps.length = cs.length := hP.length
    have mm20 : mm ≤ 20 := by omega
    walk_at "go"
    rename_i N hN
    have nN : N ≠ p := d4.ne hN
    refine for_rng (fun i σ H6 => (∃ v4 v5 : Option V, σ = [some (.ref sa), some (.ref p), some (.int (mm : Nat)), some (.ref D), v4, v5, some (.ref N), none, none]) ∧ Kp p H4 H6 ∧ Dr K p sa ns H6 ∧ ∃ zs : List Str, H6 N = some (.lst (zs.map V.str)) ∧ zs.length ≤ 2 + i ∧ ∀ z ∈ zs, z.length ≤ 40) ⟨⟨_, _, rfl⟩, Kp.new hN, d4.same (same_new hN), ["a", "/"], upd_same, Nat.le_refl _, by decide⟩ (fun i σ H6 hi q => ?_) (fun σ H6 q => ?_)
    · obtain ⟨⟨v4, v5, rfl⟩, k6, d6, zs, e6, l6, hz⟩ := q
      have hi : i < 3 := hi
      walk_at "go"
      refine i_d (fun h1 => ?_) (fun h1 => ?_)
      · walk_at "go"
        intro v7 H7 a7 b7 k7 d7
        have k47 := k6.trans k7
        obtain ⟨j, rfl⟩ : ∃ j : Nat, v7 = (j : Int) := ⟨v7.toNat, by omega⟩
        obtain ⟨T0, c, hT0, hc, hR⟩ := prd_get (prd_imp (fun _ _ q => q.kp d4 k47) hP) j (by omega)
        obtain ⟨hc1, hc2, hc3⟩ := hok c (List.mem_of_getElem? hc)
        obtain ⟨a, q1, q2, q3⟩ := hR
        refine e_ixL (v := .ref T0) (SqL.of (k47 _ _ nD e4)) (at_of (j := j) rfl (by rw [List.getElem?_map, hT0]; rfl)) ?_
        walk_at "go"
        refine e_ixT (SqT.of q2) (v := .ref a) rfl ?_
        walk_at "go"
        refine ⟨_, _, _, rfl, p, sa, ns, a, c.1, rfl, rfl, rfl, d7, q3.atk d7, hc1, hc3, fun z H8 hz8 k8 d8 => ?_⟩
        have e8 := k8 _ _ nN (k7 _ _ nN e6)
        have k48 := k47.trans k8
        walk_at "go"
        refine e_app e8 (small (by rw [List.length_map]; omega : _ ≤ 100) (by decide)) ?_
        refine ⟨⟨_, _, rfl⟩, k48.mut hN, Dr.mut d4 d8 hN k48, zs ++ [z], by rw [upd_same, List.map_append]; rfl, by rw [List.length_append]; simp; omega, fun x hx => ?_⟩
        rcases List.mem_append.mp hx with hx | hx
        · exact hz x hx
        · rw [List.mem_singleton.mp hx]; exact hz8
      · walk_at "go"
        exact ⟨⟨_, _, rfl⟩, k6, d6, zs, e6, by omega, hz⟩
    obtain ⟨⟨v4', v5', rfl⟩, k6, d6, zs, e6, l6, hz⟩ := q
    have e46 := k6 _ _ nD e4
    have hP6 := prd_imp (fun _ _ q => (RowP.kp d4 q k6).at) hP
    clear hP e4 k4 d4 hN hD
    walk_at "go"
    rename_i t1 ht1 t2 ht2 t3 ht3
    have s1 := same_new (o := .tup [.str "-./0123456789ABCDEFGHIJKLMNOPQRSTUVWXYZ_abcdefghijklmnopqrstuvwxyz~", .bl true]) ht1
    have s2 := same_new (o := .lst [.ref t1]) ht2
    have s3 := same_new (o := .tup [.ref t2, .bl false]) ht3
    have s13 := s1.trans (s2.trans s3)
    have hW : RowAt K (upd (upd (upd H6 t1 (.tup [.str "-./0123456789ABCDEFGHIJKLMNOPQRSTUVWXYZ_abcdefghijklmnopqrstuvwxyz~", .bl true])) t2 (.lst [.ref t1])) t3 (.tup [.ref t2, .bl false])) t3 whole :=
      ⟨t2, SqT.of upd_same, [t1], SqL.of (s3 _ _ upd_same), .cons (SqT.of (s3 _ _ (s2 _ _ upd_same))) .nil⟩
    generalize upd (upd (upd H6 t1 (.tup [.str "-./0123456789ABCDEFGHIJKLMNOPQRSTUVWXYZ_abcdefghijklmnopqrstuvwxyz~", .bl true])) t2 (.lst [.ref t1])) t3 (.tup [.ref t2, .bl false]) = H9 at s13 hW ⊢
    have e9 := s13 _ _ e6
    have eD9 := s13 _ _ e46
    have hP9 := ras_same s13 hP6
    clear s1 s2 s3 s13 ht1 ht2 ht3 hP6 e46 e6 d6 k6
    have okc : okR cs := ⟨by omega, fun c hc => ⟨(hok c hc).1, (hok c hc).2.1⟩⟩
    have okw : okR (cs ++ [whole]) := by
      refine ⟨by rw [List.length_append]; simp; omega, fun c hc => ?_⟩
      rcases List.mem_append.mp hc with hc | hc
      · exact okc.2 c hc
      · rw [List.mem_singleton.mp hc]
        refine ⟨by decide, fun k hk => ?_⟩
        have := rep_lt hk
        exact rep_over (by simp at this ⊢)
    have okr : okR cs.reverse := ⟨by rw [List.length_reverse]; exact okc.1, fun c hc => okc.2 c (List.mem_reverse.mp hc)⟩
    refine ⟨N, rfl, ⟨_, SqL.of e9⟩, ?_⟩
    refine for_lst (xs := zs.map V.str) (fun pre σ H4 => (∃ v8 : Option V, σ = [some (.ref sa), some (.ref p), some (.int (mm : Nat)), some (.ref D), v4', v5', some (.ref N), some (.ref t3), v8]) ∧ Same H9 H4) ⟨⟨_, rfl⟩, Same.refl _⟩ (fun pre σ H4 q => SqL.of (q.2 _ _ e9)) (fun pre x post σ H4 e q => ?_) (fun σ H4 q => ?_)
    · obtain ⟨⟨v8, rfl⟩, s4⟩ := q
      obtain ⟨z, hz0, rfl⟩ := List.mem_map.mp (show x ∈ zs.map V.str by rw [e]; simp)
      have hz1 := hz z hz0
      walk_at "go"
      refine ⟨_, _, rfl, D, cs, z, rfl, rfl, ⟨ps, SqL.of (s4 _ _ eD9), ras_same s4 hP9⟩, okc, hz1, fun H5 s5 => ?_⟩
      have s45 := s4.trans s5
      walk_at "go"
      refine ⟨D, _, rfl, SqL.of (s45 _ _ eD9), fun D2 hD2 => ?_⟩
      have s6 := same_new (o := .lst (ps.map V.ref).reverse) hD2
      have s46 := s45.trans s6
      walk_at "go"
      refine ⟨_, _, rfl, D2, cs.reverse, z, rfl, rfl, ⟨ps.reverse, SqL.of (by rw [upd_same, List.map_reverse]), ras_same s46 (prd_rev hP9)⟩, okr, hz1, fun H7 s7 => ?_⟩
      have s47 := s46.trans s7
      walk_at "go"
      refine i_d (fun h1 => ?_) (fun h1 => ?_)
      · walk_at "go"
        rename_i l8 hl8
        have s8 := s47.trans (same_new (o := .lst [.ref t3]) hl8)
        refine ⟨D, l8, _, _, rfl, rfl, s8 _ _ eD9, upd_same, sz_of (by rw [List.length_map]; show _ + 1 ≤ _; omega), fun D3 hD3 => ?_⟩
        have s9 := s8.trans (same_new (o := .lst (ps.map V.ref ++ [.ref t3])) hD3)
        walk_at "go"
        refine ⟨_, _, rfl, D3, cs ++ [whole], z, rfl, rfl, ⟨ps ++ [t3], SqL.of (by rw [upd_same, List.map_append]; rfl), prd_snoc (ras_same s9 hP9) (hW.same s9)⟩, okw, hz1, fun H10 s10 => ?_⟩
        walk_at "go"
        exact ⟨⟨_, rfl⟩, s9.trans s10⟩
      · walk_at "go"
        exact ⟨⟨_, rfl⟩, s47⟩
    · obtain ⟨⟨v8, rfl⟩, s4⟩ := q
      walk_at "go"
      exact k _
end
set_option maxHeartbeats 0
def d_Pattern___init__ : He.DefD := ⟨("Pattern", some "__init__"), "__init__", "Pattern.__init__", defArgs s_Pattern___init__, defBody s_Pattern___init__, defScope s_Pattern___init__, [.bl false], []⟩
def d_Pattern___eq__ : He.DefD := ⟨("Pattern", some "__eq__"), "__eq__", "Pattern.__eq__", defArgs s_Pattern___eq__, defBody s_Pattern___eq__, defScope s_Pattern___eq__, [], []⟩
def d_matches : He.DefD := ⟨("matches", none), "matches", "matches", defArgs s_matches, defBody s_matches, defScope s_matches, [], []⟩
def d_leaves_out : He.DefD := ⟨("leaves_out", none), "leaves_out", "leaves_out", defArgs s_leaves_out, defBody s_leaves_out, defScope s_leaves_out, [], []⟩
def d_start_places : He.DefD := ⟨("start_places", none), "start_places", "start_places", defArgs s_start_places, defBody s_start_places, defScope s_start_places, [], []⟩
def d_next_places : He.DefD := ⟨("next_places", none), "next_places", "next_places", defArgs s_next_places, defBody s_next_places, defScope s_next_places, [], []⟩
def d_with_skipped : He.DefD := ⟨("_with_skipped", none), "_with_skipped", "_with_skipped", defArgs s_with_skipped, defBody s_with_skipped, defScope s_with_skipped, [], []⟩
def d_law_draw : He.DefD := ⟨("_law_draw", none), "_law_draw", "_law_draw", defArgs s_law_draw, defBody s_law_draw, defScope s_law_draw, [], []⟩
def d_law_all : He.DefD := ⟨("_law_all", none), "_law_all", "_law_all", defArgs s_law_all, defBody s_law_all, defScope s_law_all, [], []⟩
def d_law_told : He.DefD := ⟨("_law_told", none), "_law_told", "_law_told", defArgs s_law_told, defBody s_law_told, defScope s_law_told, [], []⟩
def d_law_atom : He.DefD := ⟨("_law_atom", none), "_law_atom", "_law_atom", defArgs s_law_atom, defBody s_law_atom, defScope s_law_atom, [], []⟩
def d_law_atoms : He.DefD := ⟨("_law_atoms", none), "_law_atoms", "_law_atoms", defArgs s_law_atoms, defBody s_law_atoms, defScope s_law_atoms, [], []⟩
def d_law_name : He.DefD := ⟨("_law_name", none), "_law_name", "_law_name", defArgs s_law_name, defBody s_law_name, defScope s_law_name, [], []⟩
def d_law_table : He.DefD := ⟨("_law_table", none), "_law_table", "_law_table", defArgs s_law_table, defBody s_law_table, defScope s_law_table, [], []⟩
def d_law_due : He.DefD := ⟨("_law_due", none), "_law_due", "_law_due", defArgs s_law_due, defBody s_law_due, defScope s_law_due, [], []⟩
def d_law_kept : He.DefD := ⟨("_law_kept", none), "_law_kept", "_law_kept", defArgs s_law_kept, defBody s_law_kept, defScope s_law_kept, [], []⟩
def d_law : He.DefD := ⟨("law", none), "law", "law", defArgs s_law, defBody s_law, defScope s_law, [], []⟩
def fn : List He.DefD := [d_Pattern___init__, d_Pattern___eq__, d_matches, d_leaves_out, d_start_places, d_next_places, d_with_skipped, d_law_draw, d_law_all, d_law_told, d_law_atom, d_law_atoms, d_law_name, d_law_table, d_law_due, d_law_kept, d_law]
def ex : List (PySem.W.Frag → Bool) := [clsB "Pattern", eqB "Pattern"]
def fa : List He.Fa := [.glo "matches", .glo "leaves_out", .glo "start_places", .glo "next_places", .glo "_with_skipped", .glo "_law_draw", .glo "_law_all", .glo "_law_told", .glo "_law_atom", .glo "_law_atoms", .glo "_law_name", .glo "_law_table", .glo "_law_due", .glo "_law_kept", .glo "law", .glo "Pattern", .free "bool", .free "int", .free "isinstance", .free "len", .free "list", .free "range", .free "tuple", .cls "Pattern", .noat "Pattern" "atoms", .noat "Pattern" "negated", .mkr "Pattern"]
abbrev R : PySem.W.OpenRow := PySem.W.OpenLaw.row PySem.Challenge.rw_folderkin_k40_first_pattern_decides
abbrev hk : PySem.W.Hook := hookX 6 fa fn ex
def ob (s : PySem.W.SharedT) : AlX := obsXG 6 fa fn ex (HandSHeadRun.getT s)
theorem ob_eq (s : PySem.W.SharedT) : ob s = hk.obs s.abs := obsXG_eq (HandSHeadRun.getT_eq s)
theorem run (w : World) : HandSHeadRun.RunEq R (PySem.W.view R.prog [17]) hk ob 8000 ["Pattern", "matches", "leaves_out", "start_places", "next_places", "_with_skipped", "_law_draw", "_law_all", "_law_told", "_law_atom", "_law_atoms", "_law_name", "_law_table", "_law_due", "_law_kept"] w := by
  intro os
  kernel_rfl
theorem facts {P : Program} {w : World} {K : PySem.W.Frag} {h : Heap} {mg : Str → Option Value} {f : Addr} (X : K.In h) (G : h.Ns mainGlobals mg) (hfa : mg ("law" : Str) = some (.ref f)) (cc : SaysX fa fn ex K) :
    ∃ fd : FuncData, (∀ (s : Shared) (v : Value), BindsTo s fd ⟨[v], []⟩ [("script", v)]) ∧ ∀ base : Heap, K.In base → base.Ns mainGlobals mg → FnOk P w K mg base CX0 6 f fd ["script"] (sp_law K) := by
  have c : He.SaysD fa fn K := cc.1
  have T : Txt K mg := ⟨He.free_ok X G (c.fact 16 (f := .free "bool") rfl), He.free_ok X G (c.fact 17 (f := .free "int") rfl), He.free_ok X G (c.fact 18 (f := .free "isinstance") rfl), He.free_ok X G (c.fact 19 (f := .free "len") rfl), He.free_ok X G (c.fact 20 (f := .free "list") rfl), He.free_ok X G (c.fact 21 (f := .free "range") rfl), He.free_ok X G (c.fact 22 (f := .free "tuple") rfl), He.cls_ok (c.fact 23 (f := .cls "Pattern") rfl), He.glo_ok X G (c.fact 15 (f := .glo "Pattern") rfl), He.noat_ok (c.fact 24 (f := .noat "Pattern" "atoms") rfl), He.noat_ok (c.fact 25 (f := .noat "Pattern" "negated") rfl), clsB_ok (cc.more 0 rfl)⟩
  obtain ⟨fd_Pattern___init__, F_Pattern___init__⟩ := c.def_ 0 (d := d_Pattern___init__) rfl
  have M_Pattern := He.mkr_ok (c.fact 26 (f := .mkr "Pattern") rfl)
  have c_Pattern : ∀ base : Heap, C8.Mak P w K mg base 1 "Pattern" (He.ga K "Pattern") (sp_Pattern___init__ K) [] := fun base => by
    obtain ⟨ds, hv, hb⟩ := FunD.binds1 (ps := ["self", "atoms", "negated"]) F_Pattern___init__ 3 1 (fun e => nomatch e) rfl (fun T kV doc pm an cdv ct us its h1 h2 => match us, its, h1, h2 with | [_, _, _], [_], _, _ => ⟨_, rfl, by first | with_unfolding_all rfl | kernel_rfl⟩)
    exact ⟨_, _, _, ds, M_Pattern, ok_Pattern___init__ T  F_Pattern___init__, He.glo_ok X G (c.fact 15 (f := .glo "Pattern") rfl), hb, hv⟩
  have cd_Pattern : ∀ base : Heap, C8.Mak P w K mg base 1 "Pattern" (He.ga K "Pattern") (sp_Pattern___init__ K) [.bl false] := fun base => by
    obtain ⟨ds, hv, hb⟩ := FunD.binds1 (ps := ["self", "atoms", "negated"]) F_Pattern___init__ 2 0 (fun e => nomatch e) rfl (fun T kV doc pm an cdv ct us its h1 h2 => match us, its, h1, h2 with | [_, _], [_], _, _ => ⟨_, rfl, by first | with_unfolding_all rfl | kernel_rfl⟩)
    exact ⟨_, _, _, ds, M_Pattern, ok_Pattern___init__ T  F_Pattern___init__, He.glo_ok X G (c.fact 15 (f := .glo "Pattern") rfl), hb, hv⟩
  obtain ⟨fd_Pattern___eq__, F_Pattern___eq__⟩ := c.def_ 1 (d := d_Pattern___eq__) rfl
  obtain ⟨q1_Pattern, q2_Pattern⟩ := He.ba (cc.more 1 rfl : eqB "Pattern" K = true)
  have e_Pattern : ∀ base : Heap, EqC P w K mg base 1 "Pattern" (sp_Pattern___eq__ K) := fun base => ⟨_, _, _, ok_Pattern___eq__ T  F_Pattern___eq__, He.eqO_ok q1_Pattern, q2_Pattern, FunD.bindsN F_Pattern___eq__ fun _ _ _ _ _ _ us hl => match us, hl with | [_, _], _ => rfl⟩
  obtain ⟨fd_with_skipped, F_with_skipped⟩ := c.def_ 6 (d := d_with_skipped) rfl
  have c_with_skipped : ∀ base : Heap, Cal P w K mg base 1 "_with_skipped" (sp_with_skipped K) := fun base => ⟨_, _, ["pattern", "reached"], ok_with_skipped T  F_with_skipped, He.glo_ok X G (c.fact 4 (f := .glo "_with_skipped") rfl), F_with_skipped.kp, FunD.bindsN F_with_skipped fun _ _ _ _ _ _ us hl => match us, hl with | [_, _], _ => rfl⟩
  obtain ⟨fd_law_draw, F_law_draw⟩ := c.def_ 7 (d := d_law_draw) rfl
  have c_law_draw : ∀ base : Heap, Cal P w K mg base 1 "_law_draw" (spDraw K) := fun base => ⟨_, _, ["state", "script", "size"], ok_law_draw T  F_law_draw, He.glo_ok X G (c.fact 5 (f := .glo "_law_draw") rfl), F_law_draw.kp, FunD.bindsN F_law_draw fun _ _ _ _ _ _ us hl => match us, hl with | [_, _, _], _ => rfl⟩
  obtain ⟨fd_law_all, F_law_all⟩ := c.def_ 8 (d := d_law_all) rfl
  have c_law_all : ∀ base : Heap, Cal P w K mg base 1 "_law_all" (sp_law_all K) := fun base => ⟨_, _, [], ok_law_all T  F_law_all, He.glo_ok X G (c.fact 6 (f := .glo "_law_all") rfl), F_law_all.kp, FunD.bindsN F_law_all fun _ _ _ _ _ _ us hl => match us, hl with | [], _ => rfl⟩
  obtain ⟨fd_law_told, F_law_told⟩ := c.def_ 9 (d := d_law_told) rfl
  have c_law_told : ∀ base : Heap, Cal P w K mg base 1 "_law_told" (sp_law_told K) := fun base => ⟨_, _, ["actual", "due"], ok_law_told T  F_law_told, He.glo_ok X G (c.fact 7 (f := .glo "_law_told") rfl), F_law_told.kp, FunD.bindsN F_law_told fun _ _ _ _ _ _ us hl => match us, hl with | [_, _], _ => rfl⟩
  obtain ⟨fd_law_table, F_law_table⟩ := c.def_ 13 (d := d_law_table) rfl
  have c_law_table : ∀ base : Heap, Cal P w K mg base 1 "_law_table" (sp_law_table K) := fun base => ⟨_, _, ["atoms", "name"], ok_law_table T  F_law_table, He.glo_ok X G (c.fact 11 (f := .glo "_law_table") rfl), F_law_table.kp, FunD.bindsN F_law_table fun _ _ _ _ _ _ us hl => match us, hl with | [_, _], _ => rfl⟩
  obtain ⟨fd_start_places, F_start_places⟩ := c.def_ 4 (d := d_start_places) rfl
  have c_start_places : ∀ base : Heap, Cal P w K mg base 2 "start_places" (sp_start_places K) := fun base => ⟨_, _, ["pattern"], ok_start_places T (c_with_skipped base) F_start_places, He.glo_ok X G (c.fact 2 (f := .glo "start_places") rfl), F_start_places.kp, FunD.bindsN F_start_places fun _ _ _ _ _ _ us hl => match us, hl with | [_], _ => rfl⟩
  obtain ⟨fd_next_places, F_next_places⟩ := c.def_ 5 (d := d_next_places) rfl
  have c_next_places : ∀ base : Heap, Cal P w K mg base 2 "next_places" (sp_next_places K) := fun base => ⟨_, _, ["pattern", "places", "char"], ok_next_places T (c_with_skipped base) F_next_places, He.glo_ok X G (c.fact 3 (f := .glo "next_places") rfl), F_next_places.kp, FunD.bindsN F_next_places fun _ _ _ _ _ _ us hl => match us, hl with | [_, _, _], _ => rfl⟩
  obtain ⟨fd_law_atom, F_law_atom⟩ := c.def_ 10 (d := d_law_atom) rfl
  have c_law_atom : ∀ base : Heap, Cal P w K mg base 2 "_law_atom" (sp_law_atom K) := fun base => ⟨_, _, ["state", "script", "before"], ok_law_atom T (c_law_all base) (c_law_draw base) F_law_atom, He.glo_ok X G (c.fact 8 (f := .glo "_law_atom") rfl), F_law_atom.kp, FunD.bindsN F_law_atom fun _ _ _ _ _ _ us hl => match us, hl with | [_, _, _], _ => rfl⟩
  obtain ⟨fd_law_name, F_law_name⟩ := c.def_ 12 (d := d_law_name) rfl
  have c_law_name : ∀ base : Heap, Cal P w K mg base 2 "_law_name" (sp_law_name K) := fun base => ⟨_, _, ["state", "script", "atoms"], ok_law_name T (c_law_draw base) F_law_name, He.glo_ok X G (c.fact 10 (f := .glo "_law_name") rfl), F_law_name.kp, FunD.bindsN F_law_name fun _ _ _ _ _ _ us hl => match us, hl with | [_, _, _], _ => rfl⟩
  obtain ⟨fd_law_due, F_law_due⟩ := c.def_ 14 (d := d_law_due) rfl
  have c_law_due : ∀ base : Heap, Cal P w K mg base 2 "_law_due" (sp_law_due K) := fun base => ⟨_, _, ["rows", "name"], ok_law_due T (c_law_table base) F_law_due, He.glo_ok X G (c.fact 12 (f := .glo "_law_due") rfl), F_law_due.kp, FunD.bindsN F_law_due fun _ _ _ _ _ _ us hl => match us, hl with | [_, _], _ => rfl⟩
  obtain ⟨fd_matches, F_matches⟩ := c.def_ 2 (d := d_matches) rfl
  have c_matches : ∀ base : Heap, Cal P w K mg base 3 "matches" (sp_matches K) := fun base => ⟨_, _, ["pattern", "name"], ok_matches T (c_start_places base) (c_next_places base) F_matches, He.glo_ok X G (c.fact 0 (f := .glo "matches") rfl), F_matches.kp, FunD.bindsN F_matches fun _ _ _ _ _ _ us hl => match us, hl with | [_, _], _ => rfl⟩
  obtain ⟨fd_law_atoms, F_law_atoms⟩ := c.def_ 11 (d := d_law_atoms) rfl
  have c_law_atoms : ∀ base : Heap, Cal P w K mg base 3 "_law_atoms" (sp_law_atoms K) := fun base => ⟨_, _, ["state", "script", "most"], ok_law_atoms T (c_law_draw base) (c_law_atom base) F_law_atoms, He.glo_ok X G (c.fact 9 (f := .glo "_law_atoms") rfl), F_law_atoms.kp, FunD.bindsN F_law_atoms fun _ _ _ _ _ _ us hl => match us, hl with | [_, _, _], _ => rfl⟩
  obtain ⟨fd_leaves_out, F_leaves_out⟩ := c.def_ 3 (d := d_leaves_out) rfl
  have c_leaves_out : ∀ base : Heap, Cal P w K mg base 4 "leaves_out" (sp_leaves_out K) := fun base => ⟨_, _, ["patterns", "name"], ok_leaves_out T (c_matches base) F_leaves_out, He.glo_ok X G (c.fact 1 (f := .glo "leaves_out") rfl), F_leaves_out.kp, FunD.bindsN F_leaves_out fun _ _ _ _ _ _ us hl => match us, hl with | [_, _], _ => rfl⟩
  obtain ⟨fd_law_kept, F_law_kept⟩ := c.def_ 15 (d := d_law_kept) rfl
  have c_law_kept : ∀ base : Heap, Cal P w K mg base 5 "_law_kept" (sp_law_kept K) := fun base => ⟨_, _, ["rows", "name"], ok_law_kept T (c_Pattern base) (cd_Pattern base) (c_leaves_out base) (c_law_told base) (c_law_due base) (e_Pattern base) F_law_kept, He.glo_ok X G (c.fact 13 (f := .glo "_law_kept") rfl), F_law_kept.kp, FunD.bindsN F_law_kept fun _ _ _ _ _ _ us hl => match us, hl with | [_, _], _ => rfl⟩
  obtain ⟨fd_law, F_law⟩ := c.def_ 16 (d := d_law) rfl
  have e := hfa.symm.trans (He.glo_ok X G (c.fact 14 (f := .glo "law") rfl))
  cases e
  have b := FunD.bindsA (ps := ["script"]) F_law fun _ _ _ _ _ _ us hl => match us, hl with | [_], _ => rfl
  exact ⟨fd_law, fun s v => b s [v] rfl, fun base _ _ => ok_law T (c_law_draw base) (c_law_atoms base) (c_law_name base) (c_law_all base) (c_law_kept base) F_law⟩
end Vk40
set_option maxHeartbeats 0
open PySem PySem.W PySem.Calls PyProof.Rows
theorem PySem.Challenge.cw_folderkin_k40_first_pattern_decides_holds : PySem.Challenge.rw_folderkin_k40_first_pattern_decides.Holds := by
  w_on; o_law
  refine HandSHeadRun.head_any (r := OpenLaw.row PySem.Challenge.rw_folderkin_k40_first_pattern_decides) (q := view (OpenLaw.row PySem.Challenge.rw_folderkin_k40_first_pattern_decides).prog [17]) (H := Vk40.hk) (ob := Vk40.ob) (M := 8000) (loose := ["Pattern", "matches", "leaves_out", "start_places", "next_places", "_with_skipped", "_law_draw", "_law_all", "_law_told", "_law_atom", "_law_atoms", "_law_name", "_law_table", "_law_due", "_law_kept"]) (d := HandSHeadRun.topDef (OpenLaw.row PySem.Challenge.rw_folderkin_k40_first_pattern_decides).prog 17) (kwd := []) Vk40.ob_eq
    (by kernel_rfl) (fun s => by kernel_rfl) Vk40.run (by kernel_rfl) (by kernel_rfl) (by kernel_rfl) (by rfl) (by first | assumption | decide +kernel) (by decide +kernel) ⟨rfl, rfl, rfl, rfl, rfl, by decide +kernel⟩ ?hw ?hc
  case hw => w_witness2
  case hc =>
    refine L2.walk_ofE (l := PySem.Challenge.rw_folderkin_k40_first_pattern_decides) (n := 63) (k := 6) (x := "script") (CX := L2.CX0) rfl (by decide) (by kernel_rfl) ⟨rfl, by decide, by decide⟩ ?F (fun _ _ _ _ z => z)
    intro w mg fa h Y G hmg0
    obtain ⟨K, KX, c⟩ := Y
    have hmg : mg ("law" : PySem.Str) = some (.ref fa) := by
      have e : (HandSHeadRun.topDef (OpenLaw.row PySem.Challenge.rw_folderkin_k40_first_pattern_decides).prog 17).name = ("law" : PySem.Str) := by kernel_rfl
      rw [← e]
      exact hmg0
    obtain ⟨fd, hb, hF⟩ := Vk40.facts (P := (PySem.Challenge.rw_folderkin_k40_first_pattern_decides).prog) (w := w) KX G hmg c
    exact ⟨K, fd, Vk40.sp_law K, KX, hb, fun H a ns hl _ hS => ⟨_, rfl, a, ns, rfl, hS, hl, fun _ => rfl⟩, hF⟩
