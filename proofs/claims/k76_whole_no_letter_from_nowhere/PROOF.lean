import PyProof.Rows.All
import Wide.All
import OpenK.AllK
import Wide.FinOn
import KE.KStateDown
import HandS.ForMost
import HandS.Codes
import HandS.Defaults
import HandS.Flow
import HandS.Walk
import HandS.Wide
import HandS.IsInst
import HandS.Iter
import KE.GoesMore
import KE.GoesEnum
import KE.LtData
import KE.DataCmp
import HandS.WideBits
import HandS.RevRange
import HandS.TupLe
import HandS.TupAny
import HandS.Style
import HandS.Dict
import HandS.More
import KE.KDictPairs
import KE.OsGo
import HandS.ForSpec
import HandS.ExcIs
import KE.KExcIs
import HandS.Head0
import HandS.Head1
import HandS.Head2
import HandS.HeadEnd
import HandS.HeadHook1
import HandS.HeadHook2
import HandS.OwnEq
import HandS.MakeKw
import KE.DataEq
import HandS.DictTup
import HandS.Deep
import KE.KDictWalk
import Lean
import PySem.Challenge.RW_folderkin_k76_whole_no_letter_from_nowhe
set_option Elab.async false
set_option linter.all false
set_option maxRecDepth 100000
set_option maxHeartbeats 4000000
namespace Vf
open PySem L2 PySem.Spec PyProof.Rows

/-- what is left of a loop, of a comprehension, behind what it walks -/
def ForB (J : It) (g : TG) (t : TS) (D : Ends) (σ : L2.St) (H1 : Hp) : Prop := ∃ W : Nat → Nat → L2.St → Hp → Prop, (∃ m, W 0 m σ H1) ∧ ∀ i m σ H, W i m σ H →
  (J.stop i H ∧ D.nx σ H) ∨ (J.go i H ∧ ∃ N : L2.St → Hp → Prop, (∀ σ' H', N σ' H' → ∃ m', m' < m ∧ W (i + 1) m' σ' H') ∧ ∀ x H', J.yld i H x H' → g x σ H' fun σ2 H2 => t { D with nx := N, ct := N, bk := D.nx } σ2 H2)
def LcB (J : It) (g : TG) (tt : TT) (te : TE) (vs : List Nat) (σ : L2.St) (D : Addr) (H1 : Hp) (Q : VK) : Prop := ∃ W : Nat → Nat → Hp → Prop, (∃ m, W 0 m (upd H1 D (.lst []))) ∧ ∀ i m H, W i m H →
  (J.stop i H ∧ Q (.ref D) H) ∨ (J.go i H ∧
    ∃ Nx : Hp → Prop, (∀ H', Nx H' → ∃ m', m' < m ∧ W (i + 1) m' H') ∧
    ∀ x H', J.yld i H x H' → g x (wipe σ vs) H' fun σ2 H2 => wipe σ2 vs = wipe σ vs ∧ tt σ2 H2 fun b H3 =>
    if b = true then te σ2 H3 fun y H4 => 
      ∃ acc, H4 D = some (.lst acc) ∧ acc.length < sizeLine ∧
      Nx (upd H4 D (.lst (acc ++ [y]))) else Nx H3)
section
variable {K : PySem.W.Frag} {g : TG} {t : TS} {D : Ends} {σ : L2.St} {H : Hp} {tt : TT} {te : TE} {vs : List Nat} {Q : VK} {Da : Addr}
/-- for c in z, a text: Pv by the signs gone -/
theorem for_str {z : Str} (Pv : List Nat → L2.St → Hp → Prop) (h0 : Pv [] σ H)
    (hs : ∀ (pre : List Nat) (c : Nat) (post : List Nat) σ H, z.cps.toList = pre ++ c :: post → Pv pre σ H → g (.str ⟨#[c]⟩) σ H fun σ2 H2 => t { D with nx := Pv (pre ++ [c]), ct := Pv (pre ++ [c]), bk := D.nx } σ2 H2)
    (hd : ∀ σ H, Pv z.cps.toList σ H → D.nx σ H) : ForB (Its z) g t D σ H := by
  refine for_it walk_str (fun i => Pv (z.cps.toList.take i)) (by simpa using h0) (fun _ _ _ _ _ => trivial) (fun i x σ H H' hi p y => ?_) (fun σ H p => ?_)
  · obtain ⟨e, c, hc, hx⟩ := y
    subst e hx
    have hc' : z.cps.toList[i]? = some c := by simpa using hc
    have hi' : i < z.cps.toList.length := by simpa using hi
    have e1 : z.cps.toList = z.cps.toList.take i ++ c :: z.cps.toList.drop (i + 1) := by
      have e2 := (List.getElem?_eq_some_iff.mp hc').2
      rw [← e2, List.getElem_cons_drop, List.take_append_drop]
    have e3 : z.cps.toList.take (i + 1) = z.cps.toList.take i ++ [c] := by
      rw [List.take_add_one, hc']; rfl
    rw [e3]
    exact hs _ c _ σ _ e1 p
  · refine hd σ H ?_
    have e : z.cps.toList.take z.cps.size = z.cps.toList := List.take_of_length_le (by simp)
    rw [← e]
    exact p
theorem lc_str {z : Str} (Pv : List Nat → Hp → Prop) (h0 : Pv [] (upd H Da (.lst [])))
    (hs : ∀ (pre : List Nat) (c : Nat) (post : List Nat) H, z.cps.toList = pre ++ c :: post → Pv pre H → g (.str ⟨#[c]⟩) (wipe σ vs) H fun σ2 H2 => wipe σ2 vs = wipe σ vs ∧ tt σ2 H2 fun b H3 =>
      if b = true then te σ2 H3 fun y H4 => ∃ acc, H4 Da = some (.lst acc) ∧ acc.length < sizeLine ∧ Pv (pre ++ [c]) (upd H4 Da (.lst (acc ++ [y]))) else Pv (pre ++ [c]) H3)
    (hd : ∀ H, Pv z.cps.toList H → Q (.ref Da) H) : LcB (Its z) g tt te vs σ Da H Q := by
  refine lc_it walk_str (fun i => Pv (z.cps.toList.take i)) (by simpa using h0) (fun _ _ _ _ => trivial) (fun i x H H' hi p y => ?_) (fun H p => ?_)
  · obtain ⟨e, c, hc, hx⟩ := y
    subst e hx
    have hc' : z.cps.toList[i]? = some c := by simpa using hc
    have e1 : z.cps.toList = z.cps.toList.take i ++ c :: z.cps.toList.drop (i + 1) := by
      have e2 := (List.getElem?_eq_some_iff.mp hc').2
      rw [← e2, List.getElem_cons_drop, List.take_append_drop]
    have e3 : z.cps.toList.take (i + 1) = z.cps.toList.take i ++ [c] := by
      rw [List.take_add_one, hc']; rfl
    rw [e3]
    exact hs _ c _ _ e1 p
  · refine hd H ?_
    have e : z.cps.toList.take z.cps.size = z.cps.toList := List.take_of_length_le (by simp)
    rw [← e]
    exact p
theorem for_rng {lo : Int} {n : Nat} (Pv : Nat → L2.St → Hp → Prop) (h0 : Pv 0 σ H)
    (hs : ∀ i σ H, i < n → Pv i σ H → g (.int (lo + i)) σ H fun σ2 H2 => t { D with nx := Pv (i + 1), ct := Pv (i + 1), bk := D.nx } σ2 H2) (hd : ∀ σ H, Pv n σ H → D.nx σ H) : ForB (Itr lo n) g t D σ H := for_range Pv h0 hs hd
theorem lc_rng {lo : Int} {n : Nat} (Pv : Nat → Hp → Prop) (h0 : Pv 0 (upd H Da (.lst [])))
    (hs : ∀ i H, i < n → Pv i H → g (.int (lo + i)) (wipe σ vs) H 
      fun σ2 H2 => wipe σ2 vs = wipe σ vs ∧ tt σ2 H2 fun b H3 =>
      if b = true then te σ2 H3 fun y H4 => ∃ acc, H4 Da = some (.lst acc) ∧ acc.length < sizeLine ∧ Pv (i + 1) (upd H4 Da (.lst (acc ++ [y]))) else Pv (i + 1) H3) (hd : ∀ H, Pv n H → Q (.ref Da) H) :
    LcB (Itr lo n) g tt te vs σ Da H Q := lc_range Pv h0 hs hd
/-- for x in xs, a list: Pv by what was taken -/
theorem for_lst {a : Addr} {xs : List V} (Pv : List V → L2.St → Hp → Prop) (h0 : Pv [] σ H) (hl : ∀ pre σ H, Pv pre σ H → SqL K H a xs)
    (hs : ∀ (pre : List V) (x : V) (post : List V) σ H, xs = pre ++ x :: post → Pv pre σ H → g x σ H fun σ2 H2 => t { D with nx := Pv (pre ++ [x]), ct := Pv (pre ++ [x]), bk := D.nx } σ2 H2)
    (hd : ∀ σ H, Pv xs σ H → D.nx σ H) : ForB (Itl K a) g t D σ H := by
  refine for_list (xs := xs) (fun i => Pv (xs.take i)) (by simpa using h0) (fun i σ H _ p => hl _ σ H p) (fun i x σ H hx p => ?_) (fun σ H p => ?_)
  · have e1 : xs = xs.take i ++ x :: xs.drop (i + 1) := by
      have e2 := (List.getElem?_eq_some_iff.mp hx).2
      rw [← e2, List.getElem_cons_drop, List.take_append_drop]
    have e3 : xs.take (i + 1) = xs.take i ++ [x] := by
      rw [List.take_add_one, hx]; rfl
    rw [e3]
    exact hs _ x _ σ H e1 p
  · rw [List.take_length] at p
    exact hd σ H p
theorem lc_lst {a : Addr} {xs : List V} (Pv : List V → Hp → Prop) (h0 : Pv [] (upd H Da (.lst []))) (hl : ∀ pre H, Pv pre H → SqL K H a xs)
    (hs : ∀ (pre : List V) (x : V) (post : List V) H, xs = pre ++ x :: post → Pv pre H → g x (wipe σ vs) H fun σ2 H2 => wipe σ2 vs = wipe σ vs ∧ tt σ2 H2 fun b H3 =>
      if b = true then te σ2 H3 fun y H4 => ∃ acc, H4 Da = some (.lst acc) ∧ acc.length < sizeLine ∧ Pv (pre ++ [x]) (upd H4 Da (.lst (acc ++ [y]))) else Pv (pre ++ [x]) H3)
    (hd : ∀ H, Pv xs H → Q (.ref Da) H) : LcB (Itl K a) g tt te vs σ Da H Q := by
  refine lc_list (xs := xs) (fun i => Pv (xs.take i)) (by simpa using h0) (fun i H _ p => hl _ H p) (fun i x H hx p => ?_) (fun H p => ?_)
  · have e1 : xs = xs.take i ++ x :: xs.drop (i + 1) := by
      have e2 := (List.getElem?_eq_some_iff.mp hx).2
      rw [← e2, List.getElem_cons_drop, List.take_append_drop]
    have e3 : xs.take (i + 1) = xs.take i ++ [x] := by
      rw [List.take_add_one, hx]; rfl
    rw [e3]
    exact hs _ x _ H e1 p
  · rw [List.take_length] at p
    exact hd H p
theorem for_tpl {a : Addr} {xs : List V} (Pv : List V → L2.St → Hp → Prop) (h0 : Pv [] σ H) (hl : ∀ pre σ H, Pv pre σ H → SqT K H a xs)
    (hs : ∀ (pre : List V) (x : V) (post : List V) σ H, xs = pre ++ x :: post → Pv pre σ H → g x σ H fun σ2 H2 => t { D with nx := Pv (pre ++ [x]), ct := Pv (pre ++ [x]), bk := D.nx } σ2 H2)
    (hd : ∀ σ H, Pv xs σ H → D.nx σ H) : ForB (Itt K a) g t D σ H := by
  refine for_tup (xs := xs) (fun i => Pv (xs.take i)) (by simpa using h0) (fun i σ H _ p => hl _ σ H p) (fun i x σ H hx p => ?_) (fun σ H p => ?_)
  · have e1 : xs = xs.take i ++ x :: xs.drop (i + 1) := by
      have e2 := (List.getElem?_eq_some_iff.mp hx).2
      rw [← e2, List.getElem_cons_drop, List.take_append_drop]
    have e3 : xs.take (i + 1) = xs.take i ++ [x] := by
      rw [List.take_add_one, hx]; rfl
    rw [e3]
    exact hs _ x _ σ H e1 p
  · rw [List.take_length] at p
    exact hd σ H p
end

/-! ### readings, one lemma a head -/
section
variable {σ : L2.St} {H : Hp} {Q : VK} {D : Ends} {te ta tb tx : TE} {tt tu : TT} {t u : TS} {as : TA} {r r' : R2} {x y v : V} {K : PySem.W.Frag}
theorem e_var {i : Nat} (h : σ[i]? = some (some v)) (q : Q v H) : tVar i σ H Q := ⟨v, h, q⟩
theorem e_c (q : Q v H) : tC v σ H Q := q
theorem e_op (q : ta σ H fun x H1 => tb σ H1 fun y H2 => r x y H2 Q) : tOp r ta tb σ H Q := q
theorem e_un {r : V → Hp → VK → Prop} (q : ta σ H fun x H1 => r x H1 Q) : tUn r ta σ H Q := q
theorem e_I0 {g : Int → Int → V} {i j : Int} (q : Q (g i j) H) : rI0 g (.int i) (.int j) H Q := ⟨i, j, rfl, rfl, q⟩
theorem e_I {C : Int → Int → Prop} {g : Int → Int → V} {i j : Int} (c : C i j) (q : Q (g i j) H) : rI C g (.int i) (.int j) H Q := ⟨i, j, rfl, rfl, c, q⟩
theorem e_U {g : Int → V} {i : Int} (q : Q (g i) H) : rU g (.int i) H Q := ⟨i, rfl, q⟩
theorem e_eq (s : scal x y = true) (q : Q (.bl (decide (x = y))) H) : rEq x y H Q := ⟨s, q⟩
theorem e_ne (s : scal x y = true) (q : Q (.bl (!decide (x = y))) H) : rNe x y H Q := ⟨s, q⟩
theorem e_eqI {i j : Int} (q : Q (.bl (decide (i = j))) H) : rEq (.int i) (.int j) H Q := ⟨rfl, by
  have e : decide (V.int i = V.int j) = decide (i = j) := by
    by_cases h : i = j
    · rw [h]; simp
    · rw [decide_eq_false h, decide_eq_false (fun z => h (V.int.inj z))]
  rw [e]; exact q⟩
theorem e_neI {i j : Int} (q : Q (.bl (!decide (i = j))) H) : rNe (.int i) (.int j) H Q := ⟨rfl, by
  have e : decide (V.int i = V.int j) = decide (i = j) := by
    by_cases h : i = j
    · rw [h]; simp
    · rw [decide_eq_false h, decide_eq_false (fun z => h (V.int.inj z))]
  rw [e]; exact q⟩
theorem e_eqS {i j : Str} (q : Q (.bl (decide (i = j))) H) : rEq (.str i) (.str j) H Q := ⟨rfl, by
  have e : decide (V.str i = V.str j) = decide (i = j) := by
    by_cases h : i = j
    · rw [h]; simp
    · rw [decide_eq_false h, decide_eq_false (fun z => h (V.str.inj z))]
  rw [e]; exact q⟩
theorem e_neS {i j : Str} (q : Q (.bl (!decide (i = j))) H) : rNe (.str i) (.str j) H Q := ⟨rfl, by
  have e : decide (V.str i = V.str j) = decide (i = j) := by
    by_cases h : i = j
    · rw [h]; simp
    · rw [decide_eq_false h, decide_eq_false (fun z => h (V.str.inj z))]
  rw [e]; exact q⟩
theorem e_eqB {i j : Bool} (q : Q (.bl (i == j)) H) : rEq (.bl i) (.bl j) H Q := ⟨rfl, by
  have e : decide (V.bl i = V.bl j) = (i == j) := by cases i <;> cases j <;> rfl
  rw [e]; exact q⟩
theorem e_neB {i j : Bool} (q : Q (.bl (i != j)) H) : rNe (.bl i) (.bl j) H Q := ⟨rfl, by
  have e : (!decide (V.bl i = V.bl j)) = (i != j) := by cases i <;> cases j <;> rfl
  rw [e]; exact q⟩
theorem e_test {Q : Bool → Hp → Prop} (q : te σ H fun x H' => ∃ k, x = .bl k ∧ Q k H') : tTest te σ H Q := q
theorem e_B {Q : Bool → Hp → Prop} (q : te σ H fun x H' => ∃ k, x = .bl k ∧ Q k H') : tB te σ H Q := q
theorem e_ex {b : Bool} {P : Bool → Prop} (q : P b) : ∃ k, V.bl b = .bl k ∧ P k := ⟨b, rfl, q⟩
theorem e_and {Q : Bool → Hp → Prop} (q : tt σ H fun c H1 => if c = true then tu σ H1 Q else Q false H1) : tAnd tt tu σ H Q := q
theorem e_or {Q : Bool → Hp → Prop} (q : tt σ H fun c H1 => if c = true then Q true H1 else tu σ H1 Q) : tOr tt tu σ H Q := q
theorem e_not {Q : Bool → Hp → Prop} (q : tt σ H fun c H1 => Q (!c) H1) : tNot tt σ H Q := q
theorem e_yes {Q : Bool → Hp → Prop} (q : Q true H) : tYes σ H Q := q
theorem e_andV (q : ta σ H fun x H1 => ∃ c, x = .bl c ∧ if c = true then tb σ H1 Q else Q (.bl false) H1) : tAndV ta tb σ H Q := q
theorem e_orV (q : ta σ H fun x H1 => ∃ c, x = .bl c ∧ if c = true then Q (.bl true) H1 else tb σ H1 Q) : tOrV ta tb σ H Q := q
theorem e_notV (q : ta σ H fun x H1 => ∃ c, x = .bl c ∧ Q (.bl (!c)) H1) : tNotV ta σ H Q := q
theorem e_if (q : tt σ H fun c H1 => if c = true then ta σ H1 Q else tb σ H1 Q) : tIf tt ta tb σ H Q := q
theorem e_chain (q : ta σ H fun x H1 => tb σ H1 fun y H2 => r x y H2 fun z H3 => ∃ k, z = .bl k ∧ (if k = true then tx σ H3 fun w' H4 => r' y w' H4 Q else Q (.bl false) H3)) : tChain r r' ta tb tx σ H Q := q
theorem e_seq (q : t { D with nx := u D } σ H) : tSeq t u D σ H := q
theorem e_next (q : D.nx σ H) : tNext D σ H := q
theorem e_break (q : D.bk σ H) : tBreak D σ H := q
theorem e_cont (q : D.ct σ H) : tCont D σ H := q
theorem e_drop (q : te σ H fun _ H1 => D.nx σ H1) : tDrop te D σ H := q
theorem e_ret (q : te σ H D.rt) : tRet te D σ H := q
theorem e_retN (q : D.rt .non H) : tRetN D σ H := q
theorem e_ifS (q : tt σ H fun b H1 => if b = true then t D σ H1 else u D σ H1) : tIfS tt t u D σ H := q
theorem e_asg {g : TG} (q : te σ H fun x H1 => g x σ H1 D.nx) : tAsg te g D σ H := q
theorem e_name {i : Nat} {Q : L2.St → Hp → Prop} (q : Q (σ.set i (some v)) H) : gName i v σ H Q := q
theorem e_sub {to ti : TE} {st : TSet} {Q : L2.St → Hp → Prop} (q : to σ H fun o H1 => ti σ H1 fun i H2 => st o i v H2 fun H3 => Q σ H3) : gSub to ti st v σ H Q := q
theorem e_aug {i : Nat} {ti : TIp} (h : σ[i]? = some (some x)) (q : te σ H fun y H1 => ti x y H1 fun z H2 => D.nx (σ.set i (some z)) H2) : tAug i te ti D σ H := ⟨x, h, q⟩
theorem e_nil {Q : List V → Hp → Prop} (q : Q [] H) : tNil σ H Q := q
theorem e_cons {Q : List V → Hp → Prop} (q : ta σ H fun x H1 => as σ H1 fun xs H2 => Q (x :: xs) H2) : tCons ta as σ H Q := q
theorem e_call {sp : Sp} {dvs : List V} {E : XK} (q : as σ H fun vs H1 => sp (vs ++ dvs) H1 Q E) : tCall sp dvs E as σ H Q := q
theorem e_CB {r : List V → Hp → VK → Prop} (q : as σ H fun vs H1 => r vs H1 Q) : tCB r as σ H Q := q
theorem e_tup (q : as σ H fun xs H1 => xs.length ≤ sizeLine ∧ ∀ p, H1 p = none → Q (.ref p) (upd H1 p (.tup xs))) : tTup as σ H Q := q
theorem e_lst (q : as σ H fun xs H1 => xs.length ≤ sizeLine ∧ ∀ p, H1 p = none → Q (.ref p) (upd H1 p (.lst xs))) : tLst as σ H Q := q
theorem e_sl {r : V → Option Int → Option Int → Hp → VK → Prop} {tl th : TO} (q : te σ H fun x H1 => tl σ H1 fun l H2 => th σ H2 fun u H3 => r x l u H3 Q) : tSl r te tl th σ H Q := q
theorem e_noP {Q : Option Int → Hp → Prop} (q : Q none H) : tNoPart σ H Q := q
theorem e_part {Q : Option Int → Hp → Prop} (q : te σ H fun x H1 => ∃ i, x = .int i ∧ Q (some i) H1) : tPart te σ H Q := q
theorem e_exI {i : Int} {P : Int → Prop} (q : P i) : ∃ k, V.int i = .int k ∧ P k := ⟨i, rfl, q⟩
theorem e_bm {T : String} {r : V → List V → Hp → VK → Prop} {to : TE} (q : to σ H fun x H1 => tyV K T x H1 ∧ as σ H1 fun xs H2 => r x xs H2 Q) : tBM K T r to as σ H Q := q
theorem e_for {wi : TI} {g : TG} (q : wi σ H fun J H1 => ForB J g t D σ H1) : tFor wi g t D σ H := q
theorem e_lc {wi : TI} {g : TG} {vs : List Nat} (q : wi σ H fun J H1 => ∀ D, H1 D = none → LcB J g tt te vs σ D H1 Q) : tLc wi g tt te vs σ H Q := q
theorem e_exS {i : Str} {P : Str → Prop} (q : P i) : ∃ k, V.str i = .str k ∧ P k := ⟨i, rfl, q⟩
theorem e_exR {a : Addr} {xs : List V} {P : Addr → Prop} (h : SqL K H a xs) (q : P a) : ∃ k, V.ref a = .ref k ∧ (∃ xs, SqL K H k xs) ∧ P k := ⟨a, rfl, ⟨xs, h⟩, q⟩
theorem e_exRT {a : Addr} {xs : List V} {P : Addr → Prop} (h : SqT K H a xs) (q : P a) : ∃ k, V.ref a = .ref k ∧ (∃ xs, SqT K H k xs) ∧ P k := ⟨a, rfl, ⟨xs, h⟩, q⟩
theorem e_rng1 {n : Int} {P : Int → Prop} (h1 : -(2 ^ 62) ≤ n) (h2 : n < 2 ^ 62) (q : P n) : ∃ j : Int, [V.int n] = [.int j] ∧ -(2 ^ 62) ≤ j ∧ j < 2 ^ 62 ∧ P j := ⟨n, rfl, h1, h2, q⟩
theorem e_rng2 {m n : Int} {P : Int → Int → Prop} (h : -(2 ^ 62) ≤ m ∧ m < 2 ^ 62 ∧ -(2 ^ 62) ≤ n ∧ n < 2 ^ 62) (q : P m n) : ∃ i j : Int, [V.int m, V.int n] = [.int i, .int j] ∧ (-(2 ^ 62) ≤ i ∧ i < 2 ^ 62 ∧ -(2 ^ 62) ≤ j ∧ j < 2 ^ 62) ∧ P i j := ⟨m, n, rfl, h, q⟩
theorem e_m0 {r : V → List V → Hp → VK → Prop} {to : TE} (q : to σ H fun x H1 => (∃ a, x = .str a) ∧ r x [] H1 Q) : tM0 r to σ H Q := q
theorem e_m1 {r : V → List V → Hp → VK → Prop} {to : TE} (q : to σ H fun x H1 => (∃ a, x = .str a) ∧ te σ H1 fun y H2 => r x [y] H2 Q) : tM1 r to te σ H Q := q
theorem e_slS {z : Str} {lo hi : Option Int} (h : z.length ≤ sizeLine) (q : Q (.str (cutS z lo hi)) H) : rSlS (.str z) lo hi H Q := ⟨z, rfl, h, q⟩
theorem e_iList {R : It → Hp → Prop} {tl : TE} (q : tl σ H fun x H1 => ∃ a, x = .ref a ∧ (∃ xs, SqL K H1 a xs) ∧ R (Itl K a) H1) : iList K tl σ H R := q
theorem e_iTup {R : It → Hp → Prop} {tl : TE} (q : tl σ H fun x H1 => ∃ a, x = .ref a ∧ (∃ xs, SqT K H1 a xs) ∧ R (Itt K a) H1) : iTup K tl σ H R := q
theorem e_iStr {R : It → Hp → Prop} {tl : TE} (q : tl σ H fun v H1 => ∃ x, v = .str x ∧ R (Its x) H1) : iStr tl σ H R := q
theorem e_iRng1 {R : It → Hp → Prop} (q : as σ H fun vs H1 => ∃ j : Int, vs = [.int j] ∧ -(2 ^ 62) ≤ j ∧ j < 2 ^ 62 ∧ R (Itr 0 j.toNat) H1) : iRng1 as σ H R := q
theorem e_iRng2 {R : It → Hp → Prop} (q : as σ H fun vs H1 => ∃ i j : Int, vs = [.int i, .int j] ∧ (-(2 ^ 62) ≤ i ∧ i < 2 ^ 62 ∧ -(2 ^ 62) ≤ j ∧ j < 2 ^ 62) ∧ R (Itr i (j - i).toNat) H1) : iRng2 as σ H R := q
theorem e_ixL {p : Addr} {xs : List V} {i : Int} (h : SqL K H p xs) (ha : atI xs i = some v) (q : Q v H) : rIxL K (.ref p) (.int i) H Q := ⟨p, xs, i, v, rfl, rfl, h, ha, q⟩
theorem e_ixT {p : Addr} {xs : List V} {i : Int} (h : SqT K H p xs) (ha : atI xs i = some v) (q : Q v H) : rIxT K (.ref p) (.int i) H Q := ⟨p, xs, i, v, rfl, rfl, h, ha, q⟩
theorem e_ixS {z : Str} {i : Int} {c : Nat} (hz : z.length ≤ sizeLine) (ha : atI z.cps.toList i = some c) (q : Q (.str ⟨#[c]⟩) H) : rIxS (.str z) (.int i) H Q := ⟨z, i, c, rfl, rfl, hz, ha, q⟩
theorem e_len {p : Addr} {ys : List V} (h : SqL K H p ys) (q : Q (.int ys.length) H) : ∃ p' ys', [V.ref p] = [V.ref p'] ∧ (SqL K H p' ys' ∨ SqT K H p' ys') ∧ Q (.int (ys'.length : Nat)) H := ⟨p, ys, rfl, .inl h, q⟩
theorem e_lenT {p : Addr} {ys : List V} (h : SqT K H p ys) (q : Q (.int ys.length) H) : ∃ p' ys', [V.ref p] = [V.ref p'] ∧ (SqL K H p' ys' ∨ SqT K H p' ys') ∧ Q (.int (ys'.length : Nat)) H := ⟨p, ys, rfl, .inr h, q⟩
theorem e_lenS {z : Str} (h : z.length ≤ sizeLine) (q : Q (.int z.length) H) : ∃ z', [V.str z] = [V.str z'] ∧ z'.length ≤ sizeLine ∧ Q (.int (z'.length : Nat)) H := ⟨z, rfl, h, q⟩
theorem e_int1 {i : Int} (q : Q (.int i) H) : (∃ i', [V.int i] = [V.int i'] ∧ Q (.int i') H) ∨ ∃ k, [V.int i] = [V.bl k] ∧ Q (.int (if k = true then 1 else 0)) H := .inl ⟨i, rfl, q⟩
theorem e_setL {p : Addr} {xs : List V} {k : Int} {j : Nat} {Q : Hp → Prop} (h : H p = some (.lst xs)) (hj : ixN xs.length k = some j) (q : Q (upd H p (.lst (xs.set j v)))) : rSetL (.ref p) (.int k) v H Q := ⟨p, xs, k, j, rfl, rfl, h, hj, q⟩
theorem e_cut {Mid : L2.St → Hp → Prop} (h1 : t { D with nx := Mid } σ H) (h2 : ∀ σ' H', Mid σ' H' → u D σ' H') : C8.tCut t u D σ H := ⟨Mid, h1, h2⟩
/-- a test that is known, or open -/
theorem i_T {A B : Prop} (h : A) : if true = true then A else B := by rw [if_pos rfl]; exact h
theorem i_F {A B : Prop} (h : B) : if false = true then A else B := by rw [if_neg Bool.false_ne_true]; exact h
theorem i_d {p : Prop} [Decidable p] {A B : Prop} (h1 : p → A) (h2 : ¬ p → B) : if decide p = true then A else B := by
  by_cases h : p
  · rw [decide_eq_true h]; exact i_T (h1 h)
  · rw [decide_eq_false h]; exact i_F (h2 h)
theorem i_nd {p : Prop} [Decidable p] {A B : Prop} (h1 : ¬ p → A) (h2 : p → B) : if (!decide p) = true then A else B := by
  by_cases h : p
  · rw [decide_eq_true h]; exact i_F (h2 h)
  · rw [decide_eq_false h]; exact i_T (h1 h)
theorem i_b {b : Bool} {A B : Prop} (h1 : b = true → A) (h2 : b = false → B) : if b = true then A else B := by
  cases b
  · exact i_F (h2 rfl)
  · exact i_T (h1 rfl)
theorem i_nself {b : Bool} {A B : Prop} (h : B) : if (!(b == b)) = true then A else B := by
  rw [beq_self_eq_true]; exact i_F h
theorem i_self {α : Type} [DecidableEq α] {x : α} {A B : Prop} (h : A) : if decide (x = x) = true then A else B := by
  rw [decide_eq_true rfl]; exact i_T h
theorem i_neself {α : Type} [DecidableEq α] {x : α} {A B : Prop} (h : B) : if (!decide (x = x)) = true then A else B := by
  rw [decide_eq_true rfl]; exact i_F h
theorem i_nb {b : Bool} {A B : Prop} (h1 : b = false → A) (h2 : b = true → B) : if (!b) = true then A else B := by
  cases b
  · exact i_T (h1 rfl)
  · exact i_F (h2 rfl)
end

section
variable {K : PySem.W.Frag} {H : Hp} {Q : VK}
theorem isi_ty {x : V} {t n : String} {b : Bool} (ty : TyX K H x (.type t)) (e : PySem.W.kitOne K (.type t) (.type n) = some b) (q : Q (.bl b) H) : rIsi K [x, .ty n] H Q := ⟨x, .ty n, _, _, b, rfl, .ty n, ty, e, q⟩
theorem isi_bb {x : Bool} (q : Q (.bl true) H) : rIsi K [.bl x, .ty "bool"] H Q := isi_ty (.base (.bl x)) (kit_ty (by decide +kernel)) q
theorem isi_ib {x : Int} (q : Q (.bl false) H) : rIsi K [.int x, .ty "bool"] H Q := isi_ty (.base (.int x)) (kit_ty (by decide +kernel)) q
theorem isi_bi {x : Bool} (q : Q (.bl true) H) : rIsi K [.bl x, .ty "int"] H Q := isi_ty (.base (.bl x)) (kit_ty (by decide +kernel)) q
theorem isi_ii {x : Int} (q : Q (.bl true) H) : rIsi K [.int x, .ty "int"] H Q := isi_ty (.base (.int x)) (kit_ty (by decide +kernel)) q
theorem isi_si {x : Str} (q : Q (.bl false) H) : rIsi K [.str x, .ty "int"] H Q := isi_ty (.base (.str x)) (kit_ty (by decide +kernel)) q
theorem isi_ni (q : Q (.bl false) H) : rIsi K [.non, .ty "int"] H Q := isi_ty (.base .non) (kit_ty (by decide +kernel)) q
theorem isi_tt {p : Addr} {xs : List V} (h : H p = some (.tup xs)) (q : Q (.bl true) H) : rIsi K [.ref p, .ty "tuple"] H Q := isi_ty (.base (.tup h)) (kit_ty (by decide +kernel)) q
theorem isi_ll {p : Addr} {xs : List V} (h : H p = some (.lst xs)) (q : Q (.bl true) H) : rIsi K [.ref p, .ty "list"] H Q := isi_ty (.base (.lst h)) (kit_ty (by decide +kernel)) q
theorem isi_lt {p : Addr} {xs : List V} (h : H p = some (.lst xs)) (q : Q (.bl false) H) : rIsi K [.ref p, .ty "tuple"] H Q := isi_ty (.base (.lst h)) (kit_ty (by decide +kernel)) q
end
/-! ### defs that are called by their names -/
structure Cal (P : Program) (w : World) (K : PySem.W.Frag) (mg : Str → Option Value) (base : Heap) (k : Nat) (x : Str) (sp : Sp) : Prop where
  ex : ∃ (f : Addr) (fd : FuncData) (ps : List Str), FnOk P w K mg base CX0 k f fd ps sp ∧ mg x = some (.ref f) ∧ PySem.W.keepIn K (.ref f) = true ∧ Binds K fd ps []
theorem pe_c {X : Cx} {k j : Nat} {x : Str} {sp : Sp} {p pos : Pos} {e : Expr} {es : List Expr} {t : TA} (c : Cal X.prog X.w X.K X.mg X.base k x sp) (hr : Room j X.A) (hk : k ≤ j) (hg : Gl X x) (ha : PA X (e :: es) t)
    (hdb : (x == ("__debug__" : Str)) = false := by decide) 
    (he : starEach (e :: es) X.env = (false, eval e X.env) :: starEach es X.env := by rfl) 
    (hpl : (backTo pos (starEach es X.env)).any (·.1) = false := by rfl) :
    PE X (.Call (.Name x p) (e :: es) [] pos) (tCall sp [] E0 t) := by
  obtain ⟨f, fd, ps, F, hm, kp, b⟩ := c.ex
  exact pe_call F (hr.mono hk) hg hm kp b .nil pass0 ha hdb he hpl
theorem pe_c0 {X : Cx} {k j : Nat} {x : Str} {sp : Sp} {p pos : Pos} (c : Cal X.prog X.w X.K X.mg X.base k x sp) (hr : Room j X.A) (hk : k ≤ j) (hg : Gl X x)
    (hdb : (x == ("__debug__" : Str)) = false := by decide) :
    PE X (.Call (.Name x p) [] [] pos) (tCall sp [] E0 tNil) := by
  obtain ⟨f, fd, ps, F, hm, kp, b⟩ := c.ex
  exact pe_call0 F (hr.mono hk) hg hm kp b .nil pass0 hdb

/-- promises by arity -/
abbrev sp0 (R : Hp → VK → Prop) : Sp := fun vs H Q _ => vs = [] ∧ R H Q
abbrev sp1 (R : V → Hp → VK → Prop) : Sp := fun vs H Q _ => ∃ a, vs = [a] ∧ R a H Q
abbrev sp2 (R : V → V → Hp → VK → Prop) : Sp := fun vs H Q _ => ∃ a b, vs = [a, b] ∧ R a b H Q
abbrev sp3 (R : V → V → V → Hp → VK → Prop) : Sp := fun vs H Q _ => ∃ a b c, vs = [a, b, c] ∧ R a b c H Q
abbrev sp4 (R : V → V → V → V → Hp → VK → Prop) : Sp := fun vs H Q _ => ∃ a b c d, vs = [a, b, c, d] ∧ R a b c d H Q


theorem sz_of {n : Nat} (h : n ≤ 1000000) : n ≤ sizeLine := Nat.le_trans h (by decide)
/-! ### heaps: all but one address as it was -/
def Kp (st : Addr) (H H' : Hp) : Prop := ∀ b o, b ≠ st → H b = some o → H' b = some o
theorem Kp.refl (st : Addr) (H : Hp) : Kp st H H := fun _ _ _ h => h
theorem Kp.trans {st : Addr} {H H1 H2 : Hp} (a : Kp st H H1) (b : Kp st H1 H2) : Kp st H H2 := fun c o n h => b c o n (a c o n h)
theorem Kp.of {st : Addr} {H H' : Hp} (a : Same H H') : Kp st H H' := fun c o _ h => a c o h
theorem same_new {H : Hp} {p : Addr} {o : HO} (h : H p = none) : Same H (upd H p o) := fun b x e => by
  rw [upd_ne (ne_of_none e h)]
  exact e
theorem Kp.new {st p : Addr} {H : Hp} {o : HO} (h : H p = none) : Kp st H (upd H p o) := Kp.of (same_new h)
/-- an object that was not there at first may change -/
theorem Kp.mut {st p : Addr} {H H' : Hp} {o : HO} (a : Kp st H H') (h : H p = none) : Kp st H (upd H' p o) := fun b x n e => by
  rw [upd_ne (ne_of_none e h)]
  exact a b x n e
theorem Kp.put {st : Addr} {H H' : Hp} {o : HO} (a : Kp st H H') : Kp st H (upd H' st o) := fun b x n e => by
  rw [upd_ne n]
  exact a b x n e
theorem Same.mut {p : Addr} {H H' : Hp} {o : HO} (a : Same H H') (h : H p = none) : Same H (upd H' p o) := fun b x e => by
  rw [upd_ne (ne_of_none e h)]
  exact a b x e
theorem Kp.free {st p : Addr} {H H' : Hp} (a : Kp st H H') (hs : ∃ o, H' st = some o) (h : H' p = none) : H p = none := by
  cases q : H p with
  | none => rfl
  | some o =>
    by_cases e : p = st
    · obtain ⟨o', h'⟩ := hs
      rw [e, h'] at h
      cases h
    · rw [a p o e q] at h
      cases h

/-- the state of the draws and the script: two ints at st, the script at sc whatever is drawn -/
structure Dr (K : PySem.W.Frag) (st sc : Addr) (ns : List Int) (H : Hp) : Prop where
  s : ∃ a b : Int, 0 ≤ a ∧ 0 ≤ b ∧ H st = some (.lst [.int a, .int b])
  sc : ∀ H', Kp st H H' → SqL K H' sc (ns.map V.int)
  len : ns.length ≤ 63
theorem Dr.kp {K : PySem.W.Frag} {st sc : Addr} {ns : List Int} {H H' : Hp} (d : Dr K st sc ns H) (k : Kp st H H') (s : ∃ a b : Int, 0 ≤ a ∧ 0 ≤ b ∧ H' st = some (.lst [.int a, .int b])) : Dr K st sc ns H' :=
  ⟨s, fun H2 k2 => d.sc H2 (k.trans k2), d.len⟩
theorem Dr.same {K : PySem.W.Frag} {st sc : Addr} {ns : List Int} {H H' : Hp} (d : Dr K st sc ns H) (k : Same H H') : Dr K st sc ns H' := by
  obtain ⟨a, b, h1, h2, h3⟩ := d.s
  exact d.kp (Kp.of k) ⟨a, b, h1, h2, k _ _ h3⟩
theorem Dr.seq {K : PySem.W.Frag} {st sc : Addr} {ns : List Int} {H : Hp} (d : Dr K st sc ns H) : SqL K H sc (ns.map V.int) := d.sc H (Kp.refl st H)
theorem sq_keep {K : PySem.W.Frag} {H H' : Hp} {a p : Addr} {xs : List V} (h : SqL K H a xs) (hp : H p = none) (k : Kp p H H') : SqL K H' a xs := by
  rcases h with (h | ⟨c9, h⟩) | h
  · exact .inl (.inl (k _ _ (ne_of_none h hp) h))
  · exact .inl (.inr ⟨c9, k _ _ (ne_of_none h hp) h⟩)
  · exact .inr h
theorem Dr.start {K : PySem.W.Frag} {st sc : Addr} {ns : List Int} {H : Hp} (h : SqL K H sc (ns.map V.int)) (hp : H st = none) (hl : ns.length ≤ 63) : Dr K st sc ns (upd H st (.lst [.int 0, .int 0])) :=
  ⟨⟨0, 0, by decide, by decide, upd_same⟩, fun H' k => sq_keep h hp fun b o n e => k b o n (by rw [upd_ne n]; exact e), hl⟩
theorem Dr.ne {K : PySem.W.Frag} {st sc p : Addr} {ns : List Int} {H : Hp} (d : Dr K st sc ns H) (h : H p = none) : p ≠ st := by
  obtain ⟨a, b, _, _, h3⟩ := d.s
  intro e
  rw [e, h3] at h
  cases h
theorem pick_int {l : List Int} {d : Int} (h0 : 0 ≤ d) (h1 : d < l.length) : ∃ n, n ∈ l ∧ atI (l.map V.int) d = some (.int n) := by
  have h : d.toNat < l.length := by omega
  exact ⟨l[d.toNat], List.getElem_mem h, at_of (j := d.toNat) (by omega) (by rw [List.getElem?_map, List.getElem?_eq_getElem h]; rfl)⟩
theorem pick_nat {l : List Nat} {d : Int} (h0 : 0 ≤ d) (h1 : d < l.length) : ∃ n, n ∈ l ∧ atI l d = some n := by
  have h : d.toNat < l.length := by omega
  obtain ⟨j, hj⟩ : ∃ j : Nat, d = (j : Int) := ⟨d.toNat, by omega⟩
  have h2 : j < l.length := by omega
  subst hj
  exact ⟨l[j], List.getElem_mem h2, atI_nat (List.getElem?_eq_getElem h2)⟩
theorem at_last {ns : List Int} (h : 0 < ns.length) : ∃ x, atI (ns.map V.int) (-1) = some (.int x) := by
  have e : ns = ns.dropLast ++ [ns.getLast (by intro q; rw [q] at h; cases h)] := (List.dropLast_concat_getLast _).symm
  rw [e, List.map_append]
  exact ⟨_, atI_last _ _⟩
theorem pick_sign {z : Str} {d : Int} (h0 : 0 ≤ d) (h1 : d < (z.length : Int)) : ∃ c, c ∈ z.cps.toList ∧ atI z.cps.toList d = some c :=
  pick_nat h0 (by simpa [Str.length] using h1)
theorem len_app (a b : Str) : (a ++ b).length = a.length + b.length := PySem.Str.length_append a b
/-- what a call behind which only the draws' state has changed hands on -/
def RDraw (K : PySem.W.Frag) (st sc : Addr) (ns : List Int) (H : Hp) (G : Hp → Prop) : Prop := Dr K st sc ns H ∧ ∀ H', Kp st H H' → Dr K st sc ns H' → G H'
theorem Dr.mut {K : PySem.W.Frag} {st sc p : Addr} {ns : List Int} {H0 H1 : Hp} {o : HO} (d0 : Dr K st sc ns H0) (d : Dr K st sc ns H1) (hp : H0 p = none) (k : Kp st H0 H1) : Dr K st sc ns (upd H1 p o) := by
  obtain ⟨a, b, h1, h2, h3⟩ := d.s
  exact d0.kp (k.mut hp) ⟨a, b, h1, h2, by rw [upd_ne (d0.ne hp).symm]; exact h3⟩
section
variable {K : PySem.W.Frag} {g : TG} {σ : L2.St} {te : TE} {vs : List Nat} {Q : VK} {Da st sc : Addr} {ns : List Int} {H0 : Hp}
/-- [e for k in range(..)], e with draws -/
theorem lc_dr {lo : Int} {n : Nat} (d0 : Dr K st sc ns H0) (hD : H0 Da = none) (hn : n ≤ 1000000) (Pe : V → Prop)
    (hs : ∀ (i : Nat) (H2 : Hp) (C : VK) (E : Hp → Prop), i < n → Kp st H0 H2 → Dr K st sc ns H2 → (∀ y H3, Kp st H2 H3 → Dr K st sc ns H3 → Pe y → C y H3) →
      g (.int (lo + i)) (wipe σ vs) H2 fun σ2 H2 => wipe σ2 vs = wipe σ vs ∧ tYes σ2 H2 fun b H3 => if b = true then te σ2 H3 C else E H3)
    (hd : ∀ (H : Hp) (xs : List V), Kp st H0 H → Dr K st sc ns H → H Da = some (.lst xs) → xs.length = n → (∀ x ∈ xs, Pe x) → Q (.ref Da) H) : LcB (Itr lo n) g tYes te vs σ Da H0 Q := by
  have nD := d0.ne hD
  refine lc_rng (fun i H2 => Kp st H0 H2 ∧ Dr K st sc ns H2 ∧ ∃ xs : List V, H2 Da = some (.lst xs) ∧ xs.length = i ∧ ∀ x ∈ xs, Pe x) ⟨Kp.new hD, d0.same (same_new hD), [], upd_same, rfl, fun _ hy => by cases hy⟩ (fun i H2 hi p => ?_) (fun H2 p => ?_)
  · obtain ⟨k4, d4, xs, e4, l4, o4⟩ := p
    refine hs i H2 _ _ hi k4 d4 fun y H3 k5 d5 hy => ?_
    refine ⟨xs, k5 _ _ nD e4, Nat.lt_of_le_of_lt (Nat.le_of_lt (by omega : xs.length < 1000001)) (by decide), (k4.trans k5).mut hD, Dr.mut d0 d5 hD (k4.trans k5), xs ++ [y], upd_same, by simp [l4], fun z hz => ?_⟩
    rcases List.mem_append.mp hz with h | h
    · exact o4 z h
    · rw [List.mem_singleton.mp h]; exact hy
  · obtain ⟨k4, d4, xs, e4, l4, o4⟩ := p
    exact hd H2 xs k4 d4 e4 l4 o4
/-- [e for k in range(..)], e a function of k -/
theorem lc_map_rng {lo : Int} {n : Nat} (hD : H0 Da = none) (hn : n ≤ 1000000) (f : Nat → V)
    (hs : ∀ (i : Nat) (H2 : Hp) (C : VK) (E : Hp → Prop), i < n → Same H0 H2 → (∀ H3, Same H2 H3 → C (f i) H3) →
      g (.int (lo + i)) (wipe σ vs) H2 fun σ2 H2 => wipe σ2 vs = wipe σ vs ∧ tYes σ2 H2 fun b H3 => if b = true then te σ2 H3 C else E H3)
    (hd : ∀ (H : Hp), Same H0 H → H Da = some (.lst ((List.range n).map f)) → Q (.ref Da) H) : LcB (Itr lo n) g tYes te vs σ Da H0 Q := by
  refine lc_rng (fun i H2 => Same H0 H2 ∧ H2 Da = some (.lst ((List.range i).map f))) ⟨same_new hD, upd_same⟩ (fun i H2 hi p => ?_) (fun H2 p => hd H2 p.1 p.2)
  obtain ⟨k4, e4⟩ := p
  refine hs i H2 _ _ hi k4 fun H3 k5 => ?_
  refine ⟨_, k5 _ _ e4, Nat.lt_of_le_of_lt (by simp; omega : _ ≤ 1000000) (by decide), Same.mut (k4.trans k5) hD, ?_⟩
  rw [upd_same, List.range_succ, List.map_append]
  rfl
/-- [e for x in xs], a list, e a function of x -/
theorem lc_map_lst {a : Addr} {xs : List V} (hS : SqL K H0 a xs) (hD : H0 Da = none) (hn : xs.length ≤ 1000000) (f : V → V)
    (hs : ∀ (x : V) (H2 : Hp) (C : VK) (E : Hp → Prop), x ∈ xs → Same H0 H2 → (∀ H3, Same H2 H3 → C (f x) H3) →
      g x (wipe σ vs) H2 fun σ2 H2 => wipe σ2 vs = wipe σ vs ∧ tYes σ2 H2 fun b H3 => if b = true then te σ2 H3 C else E H3)
    (hd : ∀ (H : Hp), Same H0 H → H Da = some (.lst (xs.map f)) → Q (.ref Da) H) : LcB (Itl K a) g tYes te vs σ Da H0 Q := by
  refine lc_lst (xs := xs) (fun pre H2 => Same H0 H2 ∧ H2 Da = some (.lst (pre.map f)) ∧ pre.length ≤ xs.length) ⟨same_new hD, upd_same, Nat.zero_le _⟩ (fun pre H2 p => p.1.seq hS) (fun pre x post H2 e p => ?_) (fun H2 p => hd H2 p.1 p.2.1)
  obtain ⟨k4, e4, l4⟩ := p
  refine hs x H2 _ _ (by rw [e]; simp) k4 fun H3 k5 => ?_
  refine ⟨_, k5 _ _ e4, Nat.lt_of_le_of_lt (by simp; omega : _ ≤ 1000000) (by decide), Same.mut (k4.trans k5) hD, ?_, by rw [e]; simp⟩
  rw [upd_same, List.map_append]
  rfl
end
/-- a draw: any number below the size -/
def spDraw (K : PySem.W.Frag) : Sp := sp3 fun a b c H Q => ∃ (st sc : Addr) (ns : List Int) (n : Int), a = .ref st ∧ b = .ref sc ∧ c = .int n ∧ Dr K st sc ns H ∧ 0 < n ∧ n < 2 ^ 60 ∧
  ∀ (d : Int) (H' : Hp), 0 ≤ d → d < n → Kp st H H' → Dr K st sc ns H' → Q (.int d) H'

abbrev FnP (K : PySem.W.Frag) (x : Str) (st : Stmt) (f : Addr) (fd : FuncData) : Prop :=
  FunD K x x (defArgs st) (defBody st) (defScope st) [] [] f fd
end Vf

namespace PySem
open Sem (wp)
theorem meets_enumerate_newTup (l : Addr) (row : Array Value) (ob : Obj) (cap : Nat) :
    Meets (Builtin.«enumerate.__new__» ⟨[.type "enumerate", .ref l], []⟩) (fun _ R s => (s.heap.get? l = some ob ∧ ob.cls = .type "tuple" ∧ ob.data = .seq row cap) ∧
      R (.ok (.ret (.ref (s.heap.push { cls := .type "tuple_iterator", data := .fields #[.ref l, .int 0 0] }).objs.size)))
        { s with heap := (s.heap.push { cls := .type "tuple_iterator", data := .fields #[.ref l, .int 0 0] }).push { cls := .type "enumerate", data := .fields #[.none, .bool false, .ref s.heap.objs.size, rawInt 0, .none, .none] } }) :=
  .of_wp fun prg w A R s h => by
    obtain ⟨hp, g, d, tk, os⟩ := s; obtain ⟨⟨hl9, wc, wd⟩, h⟩ := h
    have hsub := sub_enumerate
    have isT : Heap.IsTuple (Shared.heap ⟨hp, g, d, tk, os⟩) l row := ⟨_, hl9, wc, cap, wd⟩
    have q1 : ∀ {A' : Around} {E : Value → Shared → Prop} {Q : Value → Shared → Prop}, Q (.ref hp.objs.size) ⟨hp.push { cls := .type "tuple_iterator", data := .fields #[.ref l, .int 0 0] }, g, d, tk, os⟩ → wpAny (model prg w) A' (pyIter (.ref l)) Q E ⟨hp, g, d, tk, os⟩ :=
      fun q => wpAny_pyIter_tuple isT q
    wp_walk using q1
    refine wpAny_stack_any fun here => wpAny_pure ?_
    split
    · rename_i cls9 _ _ _ _ _
      cases (cls9 == Value.type "enumerate")
      · wp_walk using q1
        exact ⟨_, rfl, h⟩
      · wp_walk using q1
        exact ⟨_, rfl, h⟩
    · wp_walk using q1
      exact ⟨_, rfl, h⟩
section
variable {prg : Program} {w : World} {A : Around} {E : Value → Shared → Prop} {s : Shared}
/-- the object that enumerate makes, and the turning over a tuple -/
abbrev enOf (it : Addr) : Obj := { data := .fields #[.none, .bool false, .ref it, rawInt 0, .none, .none], cls := .type "enumerate" }
abbrev tiOf (l : Addr) : Obj := { data := .fields #[.ref l, .int 0 0], cls := .type "tuple_iterator" }
theorem call_enumerate_tup {l : Addr} {row : Array Value} {Q : Value → Shared → Prop} (isT : s.heap.IsTuple l row)
    (h : ∀ h', IsEnum h' (s.heap.objs.size + 1) s.heap.objs.size 0 .none → h'.IsTupleIter s.heap.objs.size l 0 → h'.objs.size = s.heap.objs.size + 2 →
      (∀ bb ob, s.heap.get? bb = some ob → h'.get? bb = some ob) → Q (.ref (s.heap.objs.size + 1)) { s with heap := h' }) :
    wpAny (model prg w) A
      (call (.type "enumerate") [.ref l]) Q E s := by
  obtain ⟨ob, hl9, wc, cap, wd⟩ := isT
  refine callType_new F.called_enumerate (by decide) (F.typeCall_enumerate_1 _)
    (F.newCall_enumerate_1 _) (fun it => F.args_object_init_2 it _) F.entry_enumerate_new (meets_enumerate_newTup l row ob cap) ⟨⟨hl9, wc, wd⟩, ?_⟩
  have szz : (s.heap.push (tiOf l)).objs.size = s.heap.objs.size + 1 := Heap.size_push ..
  show _ ∧ _
  rw [szz]
  have qe : IsEnum ((s.heap.push (tiOf l)).push
      (enOf s.heap.objs.size)) (s.heap.objs.size + 1) s.heap.objs.size 0 .none := by
    have := Heap.get?_push_size (s.heap.push (tiOf l))
      (o := enOf s.heap.objs.size) rfl
    rw [szz] at this; exact this
  refine ⟨⟨_, qe, rfl⟩, h _ qe ⟨_, Heap.get?_push_of_some _ (Heap.get?_push_size _ rfl), rfl, rfl⟩ (by rw [Heap.size_push, szz]) fun bb ob x => Heap.get?_push_of_some _ (Heap.get?_push_of_some _ x)⟩
theorem enumT_end {e it t : Addr} {i : Nat} {row : Array Value} {prev : Value} {Q : Option Value → Shared → Prop} (hh : A.handled = none)
    (qe : IsEnum s.heap e it i prev) (qi : s.heap.IsTupleIter it t i) (hl9 : s.heap.IsTuple t row) (ne2 : t ≠ it) (atx : row[i]? = none)
    (hQ : ∀ h', Heap.ExtBut it s.heap h' → Q none { s with heap := h' }) : wpAny (model prg w) A (pyNext (.ref e)) Q E s := by
  have ty1 : s.TypeIs (.ref e) "enumerate" := ⟨_, qe, rfl⟩
  unfold pyNext
  refine wpAny_bind (wpAny_attempt (wpAny_callSpecial?_slot (name := Str.ofString "__next__") ty1 F.slot_enumerate_next
    (wpAny_call_entry F.slot_enumerate_next ty1 F.entry_enumerate_next ?_ (F.args_enumerate_next_1 _))))
  show wpAny (model prg w) A.in1
    (field (.ref e) 2 >>= _) _ _ s
  refine wpAny_bind (wpAny_field qe rfl (x := .ref it) rfl ?_)
  refine wpAny_bind (wpAny_nextOf_tuple_end hh qi hl9 atx fun h' x he' hx' => ?_)
  obtain ⟨ob, wo, wc⟩ := hx'
  refine wpAny_bind (wpAny_isInstance (T := "StopIteration") (b := true) ⟨ob, wo, wc⟩ isSubtype_stop ?_)
  exact wpAny_pure (hQ _ he')
end
end PySem
namespace Vf
open PySem L2 PySem.Spec PyProof.Rows
/-- enumerate(t), t a tuple -/
def IteT (K : PySem.W.Frag) (a : Addr) : It :=
  ⟨fun i H => ∃ (xs : List V) (x : V), SqT K H a xs ∧ xs[i]? = some x, fun i H v H' => ∃ T x, v = .ref T ∧ H T = none ∧ H' = upd H T (.tup [.int (i : Nat), x]) ∧ ∀ xs, SqT K H a xs → xs[i]? = some x, fun i H => ∃ xs : List V, SqT K H a xs ∧ xs.length ≤ i⟩
theorem turn_enumT {P : Program} {w : World} {K : PySem.W.Frag} {elts : List Expr} {kk : Nat} {tpos : Pos} (a e it : Addr) :
    Turn P w K (.Tuple elts kk tpos) (IteT K a) [e, it] e (fun i h => (∃ prev, IsEnum h e it ((i : Nat) : Int) prev) ∧ h.IsTupleIter it a i ∧ e ≠ it) where
  mem := by simp
  obj := fun i h here bb mb => by
    obtain ⟨⟨prev, qe⟩, ⟨ob, wo, wc, wd⟩, _⟩ := here
    have e' : bb = e ∨ bb = it := by simpa using mb
    rcases e' with z | z
    · rw [z]; exact ⟨_, qe, fun v q => nomatch q⟩
    · rw [z]; exact ⟨ob, wo, fun v q => by rw [wd] at q; cases q⟩
  keep := fun i h h' here k => let ⟨⟨prev, qe⟩, hi9, qn⟩ := here; ⟨⟨prev, k e (by simp) _ qe⟩, hi9.at fun ob q => k it (by simp) ob q, qn⟩
  item := by
    intro X hP hw hK wc i pins s σ H E I fp here got
    subst hP hw hK
    obtain ⟨⟨prev, qe⟩, qi, qn⟩ := here
    obtain ⟨xs, x, wq, atx⟩ := got
    obtain ⟨cells, rds, p, szz⟩ := I.tuple wq
    obtain ⟨u, mu, rdu⟩ := rds.get atx
    have le1 : e < s.heap.objs.size := Heap.lt_size qe
    have le2 : it < s.heap.objs.size := by obtain ⟨_, q, _⟩ := qi; exact Heap.lt_size q
    have ne1 : a ≠ e := by
      intro z
      obtain ⟨ob, wo, hc2, _⟩ := p
      rw [z, qe] at wo
      cases wo
      injection hc2 with q
      exact absurd q (by decide)
    have ne2 : a ≠ it := by
      intro z
      obtain ⟨ob, wo, hc2, _⟩ := p
      obtain ⟨o2, ho2, hc3, _⟩ := qi
      rw [z, ho2] at wo
      cases wo
      rw [hc3] at hc2
      injection hc2 with q
      exact absurd q (by decide)
    have hlt : i < cells.toArray.size := by
      have := (List.getElem?_eq_some_iff.mp mu).1
      simpa using this
    refine wpAny_pyNext_enum_itemD (Draws.tuple (A := X.A.in1) (show X.A.in1.handled = none from I.ok.hd wc) it a ne2 cells.toArray) qe ⟨qi, p⟩ hlt qn (by simp [qn, Ne.symm ne1]) fun x' h' tk hP wo hst' ty1 hsz keep1 => ?_
    have ex : x' = u := by
      have q1 : cells[i]? = some x' := by simpa using hP
      exact Option.some.inj (q1.symm.trans mu)
    subst ex
    refine ⟨_, rfl, wpAny_letOwnedTupleGo_enum (s := { s with heap := h', toks := tk + 1 }) wo fun h'' he' only1 => ?_⟩
    have ty2 : h''.get? s.heap.objs.size = some { cls := .type "tuple", data := .seq #[.int i tk, x'] } := (only1.2 _ (Nat.ne_of_gt le1)).trans ty1
    have fresh1 : ObjOk X.prog X.w (upd H s.heap.objs.size (.tup [.int (i : Nat), x])) h'' s.heap.objs.size (.tup [.int (i : Nat), x]) :=
      ⟨by show 2 ≤ sizeLine; decide, [.int i tk, x'], .cons ⟨_, rfl⟩ (.cons rdu .nil), ⟨_, ty2, rfl, _, rfl⟩⟩
    have J1 : Inv X pins σ (upd H s.heap.objs.size (.tup [.int (i : Nat), x])) { s with heap := h'', toks := tk + 1 } :=
      I.turnedNew (ch := [e, it]) (fun bb ob mb q => (only1.2 bb (fun z => mb (by simp [z]))).trans (keep1 bb ob (fun z => mb (by simp [z])) (fun z => mb (by simp [z])) q)) fp (Nat.le_refl _) fresh1
    refine ⟨.ref s.heap.objs.size, _, J1, rfl, ⟨_, x, rfl, I.hok.fresh (Nat.le_refl _), rfl, fun ys hy => by rw [I.tuple_inj hy wq]; exact atx⟩, ⟨⟨x', ?_⟩, hst'.1.at fun ob q => (only1.2 it (Ne.symm qn)).trans q, qn⟩, fun bb mb => ?_⟩
    · have up1 : ((i + 1 : Nat) : Int) = (i : Int) + 1 := by
        omega
      rw [up1]; exact he'
    · have below : bb < s.heap.objs.size := by
        have two : bb = e ∨ bb = it := by simpa using mb
        rcases two with rfl | rfl
        · exact le1
        · exact le2
      rw [upd_ne (Nat.ne_of_lt below)]
      exact (fp bb mb).1
  done := by
    intro X hP hw hK wc i pins s σ H E I fp here got
    subst hP hw hK
    obtain ⟨⟨prev, qe⟩, qi, qn⟩ := here
    obtain ⟨xs, wq, atx⟩ := got
    obtain ⟨cells, rds, p, szz⟩ := I.tuple wq
    obtain ⟨f0, f1, f2, f3, f4, f5⟩ := fp it (by simp)
    have hl := rds.length
    have ne2 : a ≠ it := by
      intro z
      obtain ⟨ob, wo, hc2, _⟩ := p
      obtain ⟨o2, ho2, hc3, _⟩ := qi
      rw [z, ho2] at wo
      cases wo
      rw [hc3] at hc2
      injection hc2 with q
      exact absurd q (by decide)
    refine enumT_end (I.ok.hd wc) qe qi p ne2 (by simp; omega) fun h' eb => ⟨rfl, I.turned (t' := s.toks) (fun bb ob mb q => eb bb ob mb q) f0 f1 f3 f4 f5⟩
  self := fun A i s Q E here h => let ⟨⟨_, qe⟩, _⟩ := here; wpAny_pyIter_enum qe h
def iEnumT (K : PySem.W.Frag) (ta : TA) : TI := fun σ H R => ta σ H fun vs H1 => ∃ a xs, vs = [.ref a] ∧ SqT K H1 a xs ∧ R (IteT K a) H1
theorem pi_enumT {X : Cx} {e : Expr} {ta : TA} {p pos tpos : Pos} {elts : List Expr} {kk : Nat} (got : Gl X "enumerate") (hm : X.mg "enumerate" = none) (ha : PA X [e] ta) (hs : starEach [e] X.env = [(false, eval e X.env)] := by rfl) :
    PI X (.Tuple elts kk tpos) (.Call (.Name "enumerate" p) [e] [] pos) (iEnumT X.K ta) := by
  constructor
  intro pins s σ H R I h
  refine Call_ (ld_blt I got hm boot_enumerate (PyProof.Rows.callWith_type1 (thn (ha.run pos pins s σ H _ I h) fun us s1 ⟨vs, H1, J1, r1, q1⟩ => ?_) hs rfl))
  obtain ⟨a, xs, ex, wq, q⟩ := q1
  subst ex
  cases r1 with
  | cons r rr =>
    cases rr
    cases r
    obtain ⟨cells, rds, p', szz⟩ := J1.tuple wq
    refine call_enumerate_tup p' fun h' qe qi hsz keep1 => wpAny_pyIter_enum qe ?_
    have J2 : Inv X pins σ H1 { s1 with heap := h' } := J1.kept (t' := s1.toks) keep1
    refine ⟨s1.heap.objs.size + 1, [s1.heap.objs.size + 1, s1.heap.objs.size], _, _, H1, rfl, J2, turn_enumT a (s1.heap.objs.size + 1) s1.heap.objs.size, ⟨⟨.none, qe⟩, qi, Nat.succ_ne_self _⟩, fun bb mb => ?_, q⟩
    have e' : bb = s1.heap.objs.size + 1 ∨ bb = s1.heap.objs.size := by simpa using mb
    have above : bb ≥ s1.heap.objs.size := by
      rcases e' with w9 | w9 <;> rw [w9]
      · exact Nat.le_succ _
      · exact Nat.le.refl
    exact J1.fpOk above (J1.hok.fresh above)
/-- enumerate of a list or of a tuple -/
theorem pi_or {X : Cx} {tg l : Expr} {w1 w2 : TI} (h1 : PI X tg l w1) (h2 : PI X tg l w2) : PI X tg l (fun σ H R => w1 σ H R ∨ w2 σ H R) := ⟨fun pins s σ H R I h => by
  rcases h with h | h
  · exact h1.run pins s σ H R I h
  · exact h2.run pins s σ H R I h⟩
end Vf

namespace Vf
open PySem L2 PySem.Spec PyProof.Rows
/-! ### rules with the written part named (inside a comprehension nothing may lean on its block) -/
section
variable {X : Cx} (K : PySem.W.Frag) {pos : Pos}
theorem ixL (hK : X.K = K := by rfl) : IxR X (rIxL K) := hK ▸ ix_list
theorem ixT (hK : X.K = K := by rfl) : IxR X (rIxT K) := hK ▸ ix_tup
theorem slL (hK : X.K = K := by rfl) : SlR X (rSlL K) := hK ▸ sl_list
theorem slT (hK : X.K = K := by rfl) : SlR X (rSlA K) := hK ▸ sl_tupA
theorem eqDK (hu : X.A.units + 64 < cLine) (hK : X.K = K := by rfl) : OpR X (compareOp .Eq) (rEqD K) := hK ▸ op_eqD hu
theorem neDK (hu : X.A.units + 64 < cLine) (hK : X.K = K := by rfl) : OpR X (compareOp .NotEq) (rNeD K) := hK ▸ op_neD hu
theorem inSK (hK : X.K = K := by rfl) : OpR X (compareOp .In) (rIn K false) := hK ▸ op_in_seq
theorem niSK (hK : X.K = K := by rfl) : OpR X (compareOp .NotIn) (rIn K true) := hK ▸ op_notIn_seq
theorem lenSK (hK : X.K = K := by rfl) : CallR X (.builtin "len") (fun xs H Q => ∃ p ys, xs = [.ref p] ∧ (SqL K H p ys ∨ SqT K H p ys) ∧ Q (.int (ys.length : Nat)) H) := hK ▸ call_len_seq
theorem lstOK (hK : X.K = K := by rfl) : CallR X (.type "list") (fun xs H Q => ∃ p ys, xs = [.ref p] ∧ (SqL K H p ys ∨ SqT K H p ys) ∧ ∀ l, H l = none → Q (.ref l) (upd H l (.lst ys))) := hK ▸ call_list_of
theorem isiK (hK : X.K = K := by rfl) : CallR X (.builtin "isinstance") (rIsi K) := hK ▸ call_isi
theorem pe_fldK {e : Expr} {f : Str} {ta : TE} (ha : PE X e ta) (hb : attributeBase e f X.env (eval e X.env) = eval e X.env := by rfl) (hK : X.K = K := by rfl) : PE X (.Attribute e f pos) (tFld K ta f) := hK ▸ pe_fld ha hb
theorem pg_tupK {es : List Expr} {k : Nat} {t : TGs} {n : Nat} (hc : X.calm = true) (h : PGs X es t)
    (hn : (assignEach es X.env).length = n := by rfl) (hst : (assignEach es X.env).findIdx? (·.1) = none := by rfl) (hK : X.K = K := by rfl) : PG X (.Tuple es k pos) (gTup K n t) := hK ▸ pg_tup hc h hn hst
end
/-! ### readings of these -/
section
variable {σ : L2.St} {H : Hp} {K : PySem.W.Frag} {ta tb : TE} {as : TA}
theorem e_iRevR {tr : L2.St → Hp → (Int → Int → Hp → Prop) → Prop} {R : It → Hp → Prop} (q : tr σ H fun a b H1 => -(2 ^ 62) ≤ a ∧ a < 2 ^ 62 ∧ -(2 ^ 62) ≤ b ∧ b < 2 ^ 62 ∧ R (Itc (a + (((b - a).toNat : Nat) : Int) - 1) (-1) (b - a).toNat) H1) : iRevR tr σ H R := q
theorem e_rg1 {Q : Int → Int → Hp → Prop} (q : ta σ H fun x H1 => ∃ n, x = .int n ∧ Q 0 n H1) : tRg1 ta σ H Q := q
theorem e_rg2 {Q : Int → Int → Hp → Prop} (q : ta σ H fun x H1 => tb σ H1 fun y H2 => ∃ i j, x = .int i ∧ y = .int j ∧ Q i j H2) : tRg2 ta tb σ H Q := q
theorem e_iEnum {R : It → Hp → Prop} (q : as σ H fun vs H1 => ∃ a xs, vs = [.ref a] ∧ SqL K H1 a xs ∧ R (Ite K a) H1) : iEnum K as σ H R := q
theorem e_iEnumT {R : It → Hp → Prop} (q : as σ H fun vs H1 => ∃ a xs, vs = [.ref a] ∧ SqT K H1 a xs ∧ R (IteT K a) H1) : iEnumT K as σ H R := q
theorem e_iRng3 {R : It → Hp → Prop} (q : as σ H fun vs H1 => ∃ (i j c : Int) (n : Nat), vs = [.int i, .int j, .int c] ∧ RgC i j c n ∧ R (Itc i c n) H1) : iRng3 as σ H R := q
theorem e_slL {Q : VK} {p : Addr} {xs : List V} {lo hi : Option Int} (h : SqL K H p xs) (q : ∀ r, H r = none → Q (.ref r) (upd H r (.lst (cutV xs lo hi)))) : rSlL K (.ref p) lo hi H Q := ⟨p, xs, rfl, h, q⟩
theorem e_app {Q : VK} {l : Addr} {xs : List V} {y : V} (h : H l = some (.lst xs)) (hz : xs.length < sizeLine) (q : Q .non (upd H l (.lst (xs ++ [y])))) : rAppend (.ref l) [y] H Q := ⟨l, xs, y, rfl, rfl, h, hz, q⟩
theorem e_ext {Q : VK} {l b : Addr} {xs zs : List V} (h : H l = some (.lst xs)) (hb : H b = some (.lst zs)) (hz : xs.length + zs.length ≤ sizeLine) (q : Q .non (upd H l (.lst (xs ++ zs)))) : rExtend (.ref l) [.ref b] H Q := ⟨l, b, xs, zs, rfl, rfl, h, hb, hz, q⟩
end
/-! ### rows of ints as data -/
abbrev Di (l : List Int) : List PyData := l.map PyData.int
theorem dpAll_ints {K : PySem.W.Frag} {H : Hp} : ∀ xs : List Int, DpAll K H (xs.map V.int) (Di xs)
  | [] => .nil
  | x :: r => .cons (.int x) (dpAll_ints r)
theorem eqvAll_ints : ∀ xs ys : List Int, PyData.eqvAll (Di xs) (Di ys) = decide (xs = ys)
  | [], [] => by
      simp [PyData.eqvAll]
  | [], _ :: _ => by
      simp [PyData.eqvAll]
  | _ :: _, [] => by
      simp [PyData.eqvAll]
  | x :: xs, y :: ys => by
    have ih := eqvAll_ints xs ys
    show (PyData.eqv (.int x) (.int y) && PyData.eqvAll (Di xs) (Di ys)) = _
    rw [ih]
    show ((x == y) && decide (xs = ys)) = decide (x :: xs = y :: ys)
    by_cases h : x = y
    · subst h; simp
    · simp [h]
theorem canAll_ints : ∀ xs : List Int, PyData.canLayAll0 (Di xs) = true
  | [] => rfl
  | x :: r => by
    show (PyData.canLay0 (.int x) && PyData.canLayAll0 (Di r)) = true
    rw [canAll_ints r]; rfl
theorem depthAll_ints : ∀ xs : List Int, PyData.depthAll (Di xs) = 0
  | [] => rfl
  | x :: r => by
    show max 0 (PyData.depthAll (Di r)) = 0
    rw [depthAll_ints r]; rfl
theorem shaped_list {ds : List PyData} (h1 : PyData.canLayAll0 ds = true) (h2 : PyData.depthAll ds ≤ 60) : SeqAt.shaped (.list ds) = true := by
  unfold SeqAt.shaped
  rw [show PyData.canLay0 (.list ds) = PyData.canLayAll0 ds from rfl, h1, show PyData.depth (.list ds) = PyData.depthAll ds + 1 from rfl]
  simp
  omega
theorem shaped_tuple {ds : List PyData} (h1 : PyData.canLayAll0 ds = true) (h2 : PyData.depthAll ds ≤ 60) : SeqAt.shaped (.tuple ds) = true := by
  unfold SeqAt.shaped
  rw [show PyData.canLay0 (.tuple ds) = PyData.canLayAll0 ds from rfl, h1, show PyData.depth (.tuple ds) = PyData.depthAll ds + 1 from rfl]
  simp
  omega
theorem shaped_li (xs : List Int) : SeqAt.shaped (.list (Di xs)) = true := shaped_list (canAll_ints xs) (by rw [depthAll_ints]; decide)
theorem shaped_ti (xs : List Int) : SeqAt.shaped (.tuple (Di xs)) = true := shaped_tuple (canAll_ints xs) (by rw [depthAll_ints]; decide)
section
variable {K : PySem.W.Frag} {H : Hp} {Q : VK} {a b : Addr} {xs ys : List Int}
theorem e_eqLL (h1 : SqL K H a (xs.map V.int)) (h2 : SqL K H b (ys.map V.int)) (q : Q (.bl (decide (xs = ys))) H) : rEqD K (.ref a) (.ref b) H Q :=
  ⟨_, _, .lst h1 (dpAll_ints xs), .lst h2 (dpAll_ints ys), shaped_li xs, shaped_li ys, by rw [show PyData.eqv (.list (Di xs)) (.list (Di ys)) = PyData.eqvAll (Di xs) (Di ys) from rfl, eqvAll_ints]; exact q⟩
theorem e_neLL (h1 : SqL K H a (xs.map V.int)) (h2 : SqL K H b (ys.map V.int)) (q : Q (.bl (!decide (xs = ys))) H) : rNeD K (.ref a) (.ref b) H Q :=
  ⟨_, _, .lst h1 (dpAll_ints xs), .lst h2 (dpAll_ints ys), shaped_li xs, shaped_li ys, by rw [show PyData.eqv (.list (Di xs)) (.list (Di ys)) = PyData.eqvAll (Di xs) (Di ys) from rfl, eqvAll_ints]; exact q⟩
theorem e_eqTT (h1 : SqT K H a (xs.map V.int)) (h2 : SqT K H b (ys.map V.int)) (q : Q (.bl (decide (xs = ys))) H) : rEqD K (.ref a) (.ref b) H Q :=
  ⟨_, _, .tup h1 (dpAll_ints xs), .tup h2 (dpAll_ints ys), shaped_ti xs, shaped_ti ys, by rw [show PyData.eqv (.tuple (Di xs)) (.tuple (Di ys)) = PyData.eqvAll (Di xs) (Di ys) from rfl, eqvAll_ints]; exact q⟩
theorem e_neTT (h1 : SqT K H a (xs.map V.int)) (h2 : SqT K H b (ys.map V.int)) (q : Q (.bl (!decide (xs = ys))) H) : rNeD K (.ref a) (.ref b) H Q :=
  ⟨_, _, .tup h1 (dpAll_ints xs), .tup h2 (dpAll_ints ys), shaped_ti xs, shaped_ti ys, by rw [show PyData.eqv (.tuple (Di xs)) (.tuple (Di ys)) = PyData.eqvAll (Di xs) (Di ys) from rfl, eqvAll_ints]; exact q⟩
end
/-! ### the order of alike data -/
def rLtD (K : PySem.W.Frag) : R2 := fun x y H Q => ∃ d e, Dp K H x d ∧ Dp K H y e ∧ PySem.W.alike d e = true ∧ d ≠ .none ∧ d.depth ≤ 60 ∧ Q (.bl (PySem.W.dataLt d e)) H
def rGtD (K : PySem.W.Frag) : R2 := fun x y H Q => ∃ d e, Dp K H x d ∧ Dp K H y e ∧ PySem.W.alike d e = true ∧ d ≠ .none ∧ d.depth ≤ 60 ∧ Q (.bl (PySem.W.dataLt e d)) H
theorem op_ltD {X : Cx} (hu : X.A.units + 64 < cLine) : OpR X (compareOp .Lt) (rLtD X.K) := by
  intro pins s σ H x y v u C I rx ry hq
  obtain ⟨d, e, hd, he, sd, se, hp, q⟩ := hq
  obtain ⟨toks1, r1⟩ := Dp.reads I d x v hd rx
  obtain ⟨toks2, r2⟩ := Dp.reads I e y u he ry
  exact PySem.W.lt_data r1 r2 sd se (by have := Nat.min_le_left d.depth e.depth; omega) ⟨.bl _, H, I, rfl, q⟩
theorem op_gtD {X : Cx} (hu : X.A.units + 64 < cLine) : OpR X (compareOp .Gt) (rGtD X.K) := by
  intro pins s σ H x y v u C I rx ry hq
  obtain ⟨d, e, hd, he, sd, se, hp, q⟩ := hq
  obtain ⟨toks1, r1⟩ := Dp.reads I d x v hd rx
  obtain ⟨toks2, r2⟩ := Dp.reads I e y u he ry
  exact PySem.W.gt_data r1 r2 sd se (by have := Nat.min_le_left d.depth e.depth; omega) ⟨.bl _, H, I, rfl, q⟩
theorem alikeAll_ints : ∀ xs ys : List Int, PySem.W.alikeAll (Di xs) (Di ys) = true
  | [], _ => by simp [PySem.W.alikeAll]
  | _ :: _, [] => by simp [PySem.W.alikeAll]
  | x :: xs, y :: ys => by
    show (PySem.W.alike (.int x) (.int y) && PySem.W.alikeAll (Di xs) (Di ys)) = true
    rw [alikeAll_ints xs ys]; rfl
theorem lt_ints : ∀ xs ys : List Int, PyProof.Rows.lexLt PyProof.Rows.itemOrd (PySem.W.keyToksAll (Di xs)) (PySem.W.keyToksAll (Di ys)) = HT.lexLt xs ys
  | [], [] => by decide
  | [], y :: ys => by
    show PyProof.Rows.lexLt PyProof.Rows.itemOrd [.inl 0] (.inl 1 :: _) = true
    rw [PySem.W.lex_atom (by decide)]
    decide
  | x :: xs, [] => by
    show PyProof.Rows.lexLt PyProof.Rows.itemOrd (.inl 1 :: _) [.inl 0] = false
    rw [PySem.W.lex_atom (by decide)]
    decide
  | x :: xs, y :: ys => by
    have ih := lt_ints xs ys
    show _ = if x = y then HT.lexLt xs ys else decide (x < y)
    by_cases h : x = y
    · subst h
      rw [if_pos rfl, ← ih]
      exact PySem.W.dataLt_all_yes (x := .int x) (y := .int x) rfl (by simp [PyData.eqv])
    · rw [if_neg h, ← PySem.W.dataLt_int x y]
      exact PySem.W.dataLt_all_no (x := .int x) (y := .int y) rfl (by simpa [PyData.eqv] using h)
theorem e_ltLL {K : PySem.W.Frag} {H : Hp} {Q : VK} {a b : Addr} {xs ys : List Int} (h1 : SqL K H a (xs.map V.int)) (h2 : SqL K H b (ys.map V.int)) (q : Q (.bl (HT.lexLt xs ys)) H) : rLtD K (.ref a) (.ref b) H Q :=
  ⟨_, _, .lst h1 (dpAll_ints xs), .lst h2 (dpAll_ints ys), alikeAll_ints xs ys, by simp, by show PyData.depthAll (Di xs) + 1 ≤ 60; rw [depthAll_ints]; decide, by
    rw [PySem.W.dataLt_list, lt_ints]; exact q⟩
/-! ### loops over rows of ints -/
theorem at_split {ns : List Int} {i : Nat} {x : V} (hx : (ns.map V.int)[i]? = some x) : ∃ y, x = .int y ∧ ns = ns.take i ++ y :: ns.drop (i + 1) ∧ ns.take (i + 1) = ns.take i ++ [y] := by
  rw [List.getElem?_map] at hx
  cases e : ns[i]? with
  | none => rw [e] at hx; cases hx
  | some y =>
    rw [e] at hx
    have e2 := (List.getElem?_eq_some_iff.mp e).2
    refine ⟨y, (Option.some.inj hx).symm, ?_, by rw [List.take_add_one, e]; rfl⟩
    rw [← e2, List.getElem_cons_drop, List.take_append_drop]
section
variable {K : PySem.W.Frag} {g : TG} {t : TS} {D : Ends} {σ : L2.St} {H : Hp} {tt : TT} {te : TE} {vs : List Nat} {Q : VK} {Da a : Addr} {ns : List Int}
theorem for_ints (Pv : List Int → L2.St → Hp → Prop) (h0 : Pv [] σ H) (hl : ∀ pre σ H, Pv pre σ H → SqL K H a (ns.map V.int))
    (hs : ∀ (pre : List Int) (x : Int) (post : List Int) σ H, ns = pre ++ x :: post → Pv pre σ H → g (.int x) σ H fun σ2 H2 => t { D with nx := Pv (pre ++ [x]), ct := Pv (pre ++ [x]), bk := D.nx } σ2 H2)
    (hd : ∀ σ H, Pv ns σ H → D.nx σ H) : ForB (Itl K a) g t D σ H := by
  refine for_list (xs := ns.map V.int) (fun i => Pv (ns.take i)) (by simpa using h0) (fun i σ H _ p => hl _ σ H p) (fun i x σ H hx p => ?_) (fun σ H p => ?_)
  · obtain ⟨y, rfl, e1, e2⟩ := at_split hx
    rw [e2]
    exact hs _ y _ σ H e1 p
  · rw [List.length_map, List.take_length] at p
    exact hd σ H p
theorem for_intsT (Pv : List Int → L2.St → Hp → Prop) (h0 : Pv [] σ H) (hl : ∀ pre σ H, Pv pre σ H → SqT K H a (ns.map V.int))
    (hs : ∀ (pre : List Int) (x : Int) (post : List Int) σ H, ns = pre ++ x :: post → Pv pre σ H → g (.int x) σ H fun σ2 H2 => t { D with nx := Pv (pre ++ [x]), ct := Pv (pre ++ [x]), bk := D.nx } σ2 H2)
    (hd : ∀ σ H, Pv ns σ H → D.nx σ H) : ForB (Itt K a) g t D σ H := by
  refine for_tup (xs := ns.map V.int) (fun i => Pv (ns.take i)) (by simpa using h0) (fun i σ H _ p => hl _ σ H p) (fun i x σ H hx p => ?_) (fun σ H p => ?_)
  · obtain ⟨y, rfl, e1, e2⟩ := at_split hx
    rw [e2]
    exact hs _ y _ σ H e1 p
  · rw [List.length_map, List.take_length] at p
    exact hd σ H p
theorem walk_enumT {xs : List V} : Walk (IteT K a) xs.length (fun H => SqT K H a xs) (YPair (fun i => some (.int (i : Nat))) (fun i => xs[i]?)) := by
  refine ⟨fun i _ hi q => ⟨xs, xs[i], q, by simp [hi]⟩,
    fun _ q => ⟨xs, q, Nat.le_refl _⟩, fun i H v H' _ q y => ?_⟩
  obtain ⟨T, x, g1, g2, g3, g4⟩ := y
  exact ⟨T, .int (i : Nat), x, g1, g2, g3, rfl, g4 xs q⟩
theorem for_enumI (Pv : List Int → L2.St → Hp → Prop) (h0 : Pv [] σ H) (hl : ∀ pre σ H, Pv pre σ H → SqL K H a (ns.map V.int))
    (hs : ∀ (pre : List Int) (x : Int) (post : List Int) (T : Addr) σ H, ns = pre ++ x :: post → Pv pre σ H → H T = none → g (.ref T) σ (upd H T (.tup [.int (pre.length : Nat), .int x])) fun σ2 H2 => t { D with nx := Pv (pre ++ [x]), ct := Pv (pre ++ [x]), bk := D.nx } σ2 H2)
    (hd : ∀ σ H, Pv ns σ H → D.nx σ H) : ForB (Ite K a) g t D σ H := by
  refine for_it (walk_enum (xs := ns.map V.int)) (fun i => Pv (ns.take i)) (by simpa using h0) (fun i σ H _ p => hl _ σ H p) (fun i x σ H H' hi p y => ?_) (fun σ H p => ?_)
  · obtain ⟨T, u, v, rfl, hT, rfl, hu, hv⟩ := y
    obtain ⟨z, rfl, e1, e2⟩ := at_split hv
    cases (Option.some.inj hu)
    rw [e2]
    have hl : (ns.take i).length = i := by rw [List.length_map] at hi; rw [List.length_take]; omega
    have q := hs (ns.take i) z _ T σ H e1 p hT
    rw [hl] at q
    exact q
  · rw [List.length_map, List.take_length] at p
    exact hd σ H p
theorem for_enumIT (Pv : List Int → L2.St → Hp → Prop) (h0 : Pv [] σ H) (hl : ∀ pre σ H, Pv pre σ H → SqT K H a (ns.map V.int))
    (hs : ∀ (pre : List Int) (x : Int) (post : List Int) (T : Addr) σ H, ns = pre ++ x :: post → Pv pre σ H → H T = none → g (.ref T) σ (upd H T (.tup [.int (pre.length : Nat), .int x])) fun σ2 H2 => t { D with nx := Pv (pre ++ [x]), ct := Pv (pre ++ [x]), bk := D.nx } σ2 H2)
    (hd : ∀ σ H, Pv ns σ H → D.nx σ H) : ForB (IteT K a) g t D σ H := by
  refine for_it (walk_enumT (xs := ns.map V.int)) (fun i => Pv (ns.take i)) (by simpa using h0) (fun i σ H _ p => hl _ σ H p) (fun i x σ H H' hi p y => ?_) (fun σ H p => ?_)
  · obtain ⟨T, u, v, rfl, hT, rfl, hu, hv⟩ := y
    obtain ⟨z, rfl, e1, e2⟩ := at_split hv
    cases (Option.some.inj hu)
    rw [e2]
    have hl : (ns.take i).length = i := by rw [List.length_map] at hi; rw [List.length_take]; omega
    have q := hs (ns.take i) z _ T σ H e1 p hT
    rw [hl] at q
    exact q
  · rw [List.length_map, List.take_length] at p
    exact hd σ H p
/-- [e for k in range(a, b, c)], e a function of the turn -/
theorem lc_map_rngC {lo c : Int} {n : Nat} {H0 : Hp} (hD : H0 Da = none) (hn : n ≤ 1000000) (f : Nat → V)
    (hs : ∀ (i : Nat) (H2 : Hp) (C : VK) (E : Hp → Prop), i < n → Same H0 H2 → (∀ H3, Same H2 H3 → C (f i) H3) →
      g (.int (lo + (i : Nat) * c)) (wipe σ vs) H2 fun σ2 H2 => wipe σ2 vs = wipe σ vs ∧ tYes σ2 H2 fun b H3 => if b = true then te σ2 H3 C else E H3)
    (hd : ∀ (H : Hp), Same H0 H → H Da = some (.lst ((List.range n).map f)) → Q (.ref Da) H) : LcB (Itc lo c n) g tYes te vs σ Da H0 Q := by
  refine lc_it walk_rangeC (fun i H2 => Same H0 H2 ∧ H2 Da = some (.lst ((List.range i).map f))) ⟨same_new hD, upd_same⟩ (fun _ _ _ _ => trivial) (fun i x H2 H' hi p y => ?_) (fun H2 p => hd H2 p.1 p.2)
  obtain ⟨rfl, rfl⟩ := y
  obtain ⟨k4, e4⟩ := p
  refine hs i _ _ _ hi k4 fun H3 k5 => ?_
  refine ⟨_, k5 _ _ e4, Nat.lt_of_le_of_lt (by simp; omega : _ ≤ 1000000) (by decide), Same.mut (k4.trans k5) hD, ?_⟩
  rw [upd_same, List.range_succ, List.map_append]
  rfl
end
theorem i_bneself {b : Bool} {A B : Prop} (h : B) : if (b != b) = true then A else B := by
  have e : (b != b) = false := by cases b <;> rfl
  rw [e]; exact i_F h
theorem i_beself {b : Bool} {A B : Prop} (h : A) : if (b == b) = true then A else B := by
  rw [beq_self_eq_true]; exact i_T h
/-! ### a list or a tuple -/
/-- a row of values, a list's or a tuple's -/
abbrev SqE (K : PySem.W.Frag) (H : Hp) (p : Addr) (xs : List V) : Prop := SqL K H p xs ∨ SqT K H p xs
theorem Same.seqE {K : PySem.W.Frag} {H H' : Hp} {a : Addr} {xs : List V} (e : Same H H') (h : SqE K H a xs) : SqE K H' a xs := by
  rcases h with h | h
  · exact .inl (e.seq h)
  · refine .inr ?_
    rcases h with (h | ⟨c9, h⟩) | h
    · exact .inl (.inl (e _ _ h))
    · exact .inl (.inr ⟨c9, e _ _ h⟩)
    · exact .inr h
theorem e_ixE {K : PySem.W.Frag} {H : Hp} {Q : VK} {p : Addr} {xs : List V} {i : Int} {v : V} (h : SqE K H p xs) (ha : atI xs i = some v) (q : Q v H) : rIxL K (.ref p) (.int i) H Q ∨ rIxT K (.ref p) (.int i) H Q := by
  rcases h with h | h
  · exact .inl (e_ixL h ha q)
  · exact .inr (e_ixT h ha q)
/-- a list of the turn's values, over a list -/
theorem lc_map_lstI {K : PySem.W.Frag} {g : TG} {te : TE} {vs : List Nat} {σ : L2.St} {Da a : Addr} {H0 : Hp} {Q : VK} {xs : List V} (hS : SqL K H0 a xs) (hD : H0 Da = none) (hn : xs.length ≤ 1000000) (f : Nat → V)
    (hs : ∀ (i : Nat) (x : V) (H2 : Hp) (C : VK) (E : Hp → Prop), xs[i]? = some x → Same H0 H2 → (∀ H3, Same H2 H3 → C (f i) H3) →
      g x (wipe σ vs) H2 fun σ2 H2 => wipe σ2 vs = wipe σ vs ∧ tYes σ2 H2 fun b H3 => if b = true then te σ2 H3 C else E H3)
    (hd : ∀ (H : Hp), Same H0 H → H Da = some (.lst ((List.range xs.length).map f)) → Q (.ref Da) H) : LcB (Itl K a) g tYes te vs σ Da H0 Q := by
  refine lc_list (xs := xs) (fun i H2 => Same H0 H2 ∧ H2 Da = some (.lst ((List.range i).map f))) ⟨same_new hD, upd_same⟩ (fun i H2 _ p => p.1.seq hS) (fun i x H2 hx p => ?_) (fun H2 p => hd H2 p.1 p.2)
  obtain ⟨k4, e4⟩ := p
  have hi := (List.getElem?_eq_some_iff.mp hx).1
  refine hs i x H2 _ _ hx k4 fun H3 k5 => ?_
  refine ⟨_, k5 _ _ e4, Nat.lt_of_le_of_lt (by rw [List.length_map, List.length_range]; omega : _ ≤ 1000000) (by decide), Same.mut (k4.trans k5) hD, ?_⟩
  rw [upd_same, List.range_succ, List.map_append]
  rfl
end Vf

namespace Vf
open PySem L2 PySem.Spec PyProof.Rows
/-- a plain tuple of pairs: made by tuple(list), or by an update -/
def PlT (H : Hp) (a : Addr) (xs : List V) : Prop := ∃ o : Obj, o.dict = none ∧ H a = some (.frz o (.tup xs))
theorem PlT.seq {K : PySem.W.Frag} {H : Hp} {a : Addr} {xs : List V} (h : PlT H a xs) : SqT K H a xs := by
  obtain ⟨o, _, e⟩ := h
  exact .inl (.inr ⟨o, e⟩)
theorem PlT.same {H H' : Hp} {a : Addr} {xs : List V} (h : PlT H a xs) (e : Same H H') : PlT H' a xs := by
  obtain ⟨o, d, q⟩ := h
  exact ⟨o, d, e _ _ q⟩
theorem uvs_of {X : Cx} {pins : List (Addr × Obj)} {σ : L2.St} {H : Hp} {s : Shared} (I : Inv X pins σ H s) : ∀ {ps : List Addr} {kvs : List (Key × V)}, Paired (fun p kv => SqT X.K H p [kV kv.1, kv.2]) ps kvs →
    ∃ (prs : List (Key × Value)) (uvs : List (Value × Value)), KV kvs prs ∧ prs.length = ps.length ∧ uvs.length = ps.length ∧
      ∀ (j : Nat) (u y : Value), uvs[j]? = some (u, y) → ∃ (b : Addr) (k : Key), ps[j]? = some b ∧ PairAt s.heap b u y ∧ prs[j]? = some (k, y) ∧ keyIs k u = true
  | _, _, .nil => ⟨[], [], .nil, rfl, rfl, fun j u y e => by simp at e⟩
  | _, _, .cons (a := p) (b := kv) h t => by
    obtain ⟨prs, uvs, r, l1, l2, q⟩ := uvs_of I t
    obtain ⟨its, rv, ht, _⟩ := I.tuple h
    obtain ⟨u, y, rfl, ru, ry⟩ := vals2 rv
    refine ⟨(kv.1, y) :: prs, (u, y) :: uvs, .cons ⟨rfl, ry⟩ r, by simp [l1], by simp [l2], fun j u' y' e => ?_⟩
    cases j with
    | zero =>
      cases (Option.some.inj e)
      exact ⟨p, kv.1, rfl, .inl ht, rfl, kV_is (P := X.prog) (w := X.w) ru⟩
    | succ j =>
      obtain ⟨b, k, e1, e2, e3, e4⟩ := q j u' y' (by simpa using e)
      exact ⟨b, k, by simpa using e1, e2, by simpa using e3, e4⟩
theorem refs_of : ∀ {ps : List Addr} {us : List Value}, Vals (ps.map V.ref) us → us = ps.map Value.ref
  | [], _, .nil => rfl
  | p :: ps, _, .cons h t => by
    cases h
    rw [refs_of t]
    rfl
/-- dict(t), t a plain tuple of pairs -/
theorem call_dictPT {X : Cx} (hcalm : X.calm = true) : CallR X (.type "dict") (fun xs H Q => ∃ (a : Addr) (ps : List Addr) (kvs : List (Key × V)), xs = [.ref a] ∧ PlT H a (ps.map V.ref) ∧ Paired (fun p kv => SqT X.K H p [kV kv.1, kv.2]) ps kvs ∧
    ∀ p, H p = none → Q (.ref p) (upd H p (.dK (mergeK [] kvs)))) := by
  intro pins s σ H xs us Q I r q
  obtain ⟨a, ps, kvs, rfl, ⟨o, hd, ea⟩, hp, q⟩ := q
  obtain ⟨u, rfl, rx⟩ := vals1 r
  cases rx
  obtain ⟨ho, hz, its, rv, o2, ho2, hc, n, hdat⟩ := (show ObjOk X.prog X.w H s.heap a (.frz o (.tup (ps.map V.ref))) from I.hok a _ ea)
  rw [ho] at ho2
  cases (Option.some.inj ho2)
  have ei := refs_of rv
  subst ei
  rw [List.length_map] at hz
  obtain ⟨prs, uvs, rel, l1, l2, hq⟩ := uvs_of I hp
  have ok : PlainSeq "tuple" s.heap a (ps.map Value.ref).toArray ∧ PairItems s.heap (ps.map Value.ref).toArray (fun j => ps.getD j 0) uvs := by
    refine ⟨⟨o, n, ho, hc, hd, hdat⟩, by simp [l2], fun j k v hj => ?_⟩
    obtain ⟨b, key, e1, e2, _, _⟩ := hq j k v hj
    have e5 : ps.getD j 0 = b := by rw [List.getD_eq_getElem?_getD, e1]; rfl
    show _ ∧ PairAt s.heap (ps.getD j 0) k v
    rw [e5]
    exact ⟨by simp [e1], e2⟩
  refine PySem.call_dict_pairs (knd := mixKind X.prog X.w) (kvs := prs) (PairArg.tuple a (ps.map Value.ref).toArray (fun j => ps.getD j 0) uvs) (I.ok.hd hcalm) ok ⟨by rw [l1, l2], fun i key v hr => ?_⟩ (by rw [l2]; exact hz) fun h' tk hd' k => ?_
  · obtain ⟨b, k, _, _, e3, e4⟩ := hq i key v hr
    exact ⟨k, e3, e4⟩
  · have hm : (s.heap.objs.size == sysModules) = false := beq_eq_false_iff_ne.mpr (Nat.ne_of_gt I.big)
    have hlen : (mergeK [] kvs).length ≤ sizeLine := by
      have h1 := length_mergeK kvs []
      have h2 := rel.length
      rw [List.length_nil] at h1
      omega
    exact ⟨.ref s.heap.objs.size, upd H s.heap.objs.size (.dK (mergeK [] kvs)), I.laid (t' := tk) (fun b ob e => k b ob (by simp) e) (Nat.le_refl _) (show ObjOk X.prog X.w _ _ _ (.dK (mergeK [] kvs)) from ⟨hlen, hm, merged [] prs, KV.merge rel .nil, hd'⟩), rfl, q _ (I.hok.fresh (Nat.le_refl _))⟩
/-- tuple(l), l a list: a plain tuple -/
theorem call_tupleF {X : Cx} : CallR X (.type "tuple") (fun xs H Q => ∃ p ys, xs = [.ref p] ∧ SqL X.K H p ys ∧ ∀ l H', H l = none → Same H H' → PlT H' l ys → (∀ b, b ≠ l → H' b = H b) → Q (.ref l) H') := by
  intro pins s σ H xs us Q I r q
  obtain ⟨p, ys, rfl, hq, q⟩ := q
  obtain ⟨u, rfl, rx⟩ := vals1 r
  cases rx
  obtain ⟨its, rv, pl, hz⟩ := I.list hq
  have hlen := rv.length
  refine call_tuple_list pl.isList (fun h' kp => ?_) (by simp only [List.size_toArray] <;> omega)
  have J1 : Inv X pins σ H { s with heap := h' } := I.kept (t' := s.toks) kp
  have hfr := J1.hok.fresh (Nat.le_refl _)
  have J2 : Inv X pins σ (upd H h'.objs.size (.frz { cls := .type "tuple", data := .seq its.toArray } (.tup ys))) { s with heap := h'.push { cls := .type "tuple", data := .seq its.toArray } } :=
    J1.laid (t' := s.toks) (fun b ob e => Heap.get?_push_of_some _ e) (Nat.le_refl _) ⟨Heap.get?_push_size _ rfl, hz, its, rv, IsTup.new _ _⟩
  exact ⟨.ref h'.objs.size, _, J2, rfl, q _ _ hfr (same_new hfr) ⟨_, rfl, upd_same⟩ fun b hb => upd_ne hb⟩
theorem tupFK (K : PySem.W.Frag) {X : Cx} (hK : X.K = K := by rfl) : CallR X (.type "tuple") (fun xs H Q => ∃ p ys, xs = [.ref p] ∧ SqL K H p ys ∧ ∀ l H', H l = none → Same H H' → PlT H' l ys → (∀ b, b ≠ l → H' b = H b) → Q (.ref l) H') := hK ▸ call_tupleF
end Vf

namespace PySem
namespace ErrX
open PySem.W PySem.Calls PyProof.Rows PySem.HandSPX
/-! ### the text of __init__ -/
def iA (p1 p2 : Pos) : Arguments := { posonlyargs := [], args := [{ arg := "self", annotation := none, pos := p1 }, { arg := "place", annotation := none, pos := p2 }], vararg := none, kwonlyargs := [], kw_defaults := [], kwarg := none, defaults := [] }
def iB (q1 q2 q3 q4 : Pos) : List Stmt := [.Assign [.Attribute (.Name "self" q1) "place" q2] (.Name "place" q3) q4]
def iS : Scope := { kind := .function, names := [(PySem.Str.ofString "self", .local), (PySem.Str.ofString "place", .local)], isGenerator := false, isCoroutine := false, more := [] }
/-- what the written part says of Low, at C, and of its __init__, at fI -/
structure ErrTxt (K : Frag) (mg : Str → Option Value) (x : Str) (C fI : Addr) : Prop where
  gC : mg x = some (.ref C)
  cls : ∃ nm q N bs bm sn sub ab col dd k0 k1 k2 k3 k5, K.lookup C = some (excClassObj nm q C N bs bm true sn sub ab col dd k0 k1 k2 k3 k5 "ValueError.__new__") ∧ refsVE bm = true
  sa : findIn K (.ref C) "__setattr__" = some (some (.builtin "object.__setattr__"))
  ga : findIn K (.ref C) "__getattribute__" = some (some (.builtin "BaseException.__getattribute__"))
  gg : findIn K (.ref C) "__getattr__" = some none
  noN : findIn K (.ref C) "place" = some none
  iC : findIn K (.ref C) "__init__" = some (some (.ref fI))
  tC : typeIn K (.ref fI) = some (.type "function")
  kC : keepIn K (.ref C) = true
  exC : subIn K (.ref C) (.type "BaseException") = some true
  tyC : typeIn K (.ref C) = some (.type "type")
  hdC : hasDictIn K C = true
  te : exmOne K (.ref C) (.ref C) = some true
  fn : ∃ (oc : Value) (od : Option Addr) (kV doc pm : Value) (an : Option Addr) (cdv ct : Value) (osl : Array (Option Value)) (p1 p2 q1 q2 q3 q4 : Pos),
    K.lookup fI = some ⟨oc, od, .func (fnOf "__init__" "FolderkinError.__init__" (iA p1 p2) (iB q1 q2 q3 q4) iS .none kV doc pm an cdv ct), osl⟩ ∧ codeIn K cdv "FolderkinError.__init__" = true
theorem one_size (v : Value) : [v].length ≤ sizeLine := by
  rw [sizeLine_eq]
  exact (by decide : 1 ≤ 16777216)
theorem kept_but {K : Frag} {h h' : Heap} {x : Addr} (X : K.In h) (hx : K.lookup x = none) (k : ∀ b o, b ≠ x → h.get? b = some o → h'.get? b = some o) : K.In h' := fun a o e =>
  k a o (fun z => by rw [z, hx] at e; cases e) (X a o e)
theorem ldC {M : Model} {s : Shared} {name : Str} {scope : Scope} {L a : Addr} {cd : Value} {m : Str → Option Value} {x : Str} {pos : Pos} {v : Value} {Q : Value → Shared → Prop} {A : Around} {E : Value → Shared → Prop} (hn : s.heap.Ns L m) (hv : m x = some v) (h : Q v s)
    (hk : scope.kind = .function := by rfl) (hl : (envOfC name scope L a cd).kindOf x = some .local := by rfl) (hd : (x == ("__debug__" : Str)) = false := by decide) :
    wpAny M A (eval (.Name x pos) (envOfC name scope L a cd)) Q E s := wpAny_Name (wpAny_loadName_local hk hl hn hv h) hd
/-- what __init__ leaves of a fresh exception at x -/
structure InitEnd (h h' : Heap) (x C dx t1 : Addr) (v : Value) : Prop where
  keep : ∀ b o, b ≠ x → h.get? b = some o → h'.get? b = some o
  obj : h'.get? x = some { cls := .ref C, dict := some dx, data := .fields #[.ref t1, .none, .none, .none, .bool false, .none] }
  dbig : h.objs.size ≤ dx
  dne : dx ≠ x
  ns : h'.Ns1 dx (fun y => if y = "place" then some v else none)
/-- a made Low -/
structure OwnMade (h h' : Heap) (e C d : Addr) (v : Value) : Prop where
  keep : ∀ b o, h.get? b = some o → h'.get? b = some o
  new : h.objs.size ≤ e
  obj : ∃ oe vs, h'.get? e = some oe ∧ oe.cls = .ref C ∧ oe.dict = some d ∧ oe.data = .fields vs ∧ vs[1]? = some .none
  dbig : h.objs.size ≤ d
  dne : d ≠ e
  ns : h'.Ns1 d (fun y => if y = "place" then some v else none)
section
variable {prog : Program} {w : World} {A : Around} {E : Value → Shared → Prop} {R : Result → Shared → Prop} {s : Shared} {K : Frag} {mg : Str → Option Value} {C fI : Addr}
theorem err_init (T : ErrTxt K mg nmx C fI) {x t0 : Addr} {v : Value} (X : K.In s.heap) (hlim : s.heap.NoLimit) (hx : s.heap.get? x = some (excO C t0)) (hnx : K.lookup x = none) (hroom : A.depth < recursionLimit)
    (hq : ∀ h' tk dx, InitEnd s.heap h' x C dx t0 v → R (.ok (.ret .none)) { s with heap := h', toks := tk }) :
    codeAny (model prog w) A (.call (.ref fI) ⟨[.ref x, v], []⟩) R s := by
  obtain ⟨oc, od, kV, doc, pm, an, cdv, ct, osl, p1, p2, q1, q2, q3, q4, ho, hcd⟩ := T.fn
  obtain ⟨nm, q, N, bs, bm, sn, sub, ab, col, dd, k0, k1, k2, k3, k5, hC, hbm⟩ := T.cls
  have hcl : clsIn K C = some { name := nm, bases := bs, mro := .ref C :: bm, ns := N, qualname := q, hasDict := true, slotNames := sn, subclasses := sub, abstract := ab, collection := col, hasDel := false } := by unfold clsIn; rw [hC] <;> rfl
  refine Att.call_fn (binds := [("self", .ref x), ("place", v)]) X hlim ho hcd hroom (BindsTo.of_eq (by first | rfl | with_unfolding_all rfl)) (by first | rfl | decide | with_unfolding_all rfl) (fun s₁ IC => ?_) rfl rfl rfl
  obtain ⟨h₁, tk₁, rfl⟩ := IC.toInCall.same
  have k : ∀ b o, s.heap.get? b = some o → h₁.get? b = some o := IC.toInCall.keep
  have hn := IC.toInCall.ns
  have hxL : s.heap.objs.size ≠ x := Nat.ne_of_gt (Heap.lt_size hx)
  have X₁ : K.In h₁ := X.keeps k
  have hx₁ := k _ _ hx
  -- self.by = by
  show wpAny _ _ (execs _ _) _ _ _
  refine wpAny_execs_cons (plainObj_wpAny_Assign_Attribute ?_)
  refine ldC (v := v) hn (by first | rfl | with_unfolding_all rfl | kernel_rfl) (ldC (v := .ref x) hn (by first | rfl | with_unfolding_all rfl | kernel_rfl) ?_)
  refine set_plain X₁ (ox := excO C t0) (od := none) ⟨hx₁, rfl, rfl, trivial⟩ T.sa ?_
  refine exc_osa X₁ hx₁ hcl (show refsVE (.ref C :: bm) = true from hbm) rfl T.noN (fun h₃ tk₃ dx k₃ dn dne hx₃ hn₃ => ?_)
  show wpAny _ _ (execs _ _) _ _ _
  have z : s.heap.objs.size < h₁.objs.size := hn.lt
  exact wpAny_execs_nil (hq h₃ tk₃ dx ⟨fun b o hb e => k₃ b o hb (k b o e), hx₃, Nat.le_of_lt (Nat.lt_of_lt_of_le z dn), dne, hn₃⟩)
theorem err_made (T : ErrTxt K mg nmx C fI) {v : Value} (X : K.In s.heap) (hlim : s.heap.NoLimit) (hroom : A.depth + 1 < recursionLimit)
    (hq : ∀ h' tk e d, OwnMade s.heap h' e C d v → R (.ok (.ret (.ref e))) { s with heap := h', toks := tk }) :
    codeAny (model prog w) A (.call (.ref C) ⟨[v], []⟩) R s := by
  obtain ⟨nm, q, N, bs, bm, sn, sub, ab, col, dd, k0, k1, k2, k3, k5, hC, hbm⟩ := T.cls
  obtain ⟨hp, g, dr, tk, os⟩ := s
  have k : ∀ b o, hp.get? b = some o → ((hp.push (kdv_tup [v])).push (excO C hp.objs.size)).get? b = some o := fun b o e => Heap.get?_push_of_some _ (Heap.get?_push_of_some _ e)
  have hget : ((hp.push (kdv_tup [v])).push (excO C hp.objs.size)).get? (hp.objs.size + 1) = some (excO C hp.objs.size) := by heap_get
  have hnx : K.lookup (hp.objs.size + 1) = none := by
    cases e : K.lookup (hp.objs.size + 1) with
    | none => rfl
    | some o =>
      have z : hp.get? (hp.objs.size + 1) = some o := X _ _ e
      exact absurd (Nat.lt_of_succ_lt (Heap.lt_size z)) (Nat.lt_irrefl _)
  refine call_own F.excBase_ValueError (fun X => refsVE_contains X bm hbm) (X _ _ hC) (looks_findIn X T.iC) (fun self => bind_fn X self T.tC) (one_size v) ?_
  refine err_init (s := ⟨(hp.push (kdv_tup [v])).push (excO C hp.objs.size), g, dr, tk, os⟩) T (X.keeps k) (hlim.keeps k) hget hnx ?_ fun h' tk' dx ⟨k', hx, dn, dne, hns⟩ => ?_
  · show A.depth + 1 < recursionLimit
    exact hroom
  · have old : ∀ b o, hp.get? b = some o → h'.get? b = some o := fun b o e => k' b o (Nat.ne_of_lt (Nat.lt_succ_of_lt (Heap.lt_size e))) (k b o e)
    have z : hp.objs.size + 1 + 1 ≤ dx := by
      first
        | (simpa only [Heap.size_push] using dn)
        | exact dn
        | (have q := dn; rw [Heap.size_push, Heap.size_push] at q; exact q)
    exact ⟨rfl, hq h' tk' (hp.objs.size + 1) dx ⟨old, Nat.le_succ _, ⟨_, _, hx, rfl, rfl, rfl, rfl⟩, Nat.le_trans (Nat.le_trans (Nat.le_succ _) (Nat.le_succ _)) z, dne, hns⟩⟩
end
end ErrX
end PySem
namespace L2
open PySem PySem.Spec PyProof.Rows
theorem relO_plc {v : V} {v' : Value} (r : RelV v v') (f : Str) : RelO (List.lookup f [(("place" : Str), v)]) (if f = "place" then some v' else none) := by
  by_cases hw : f = "place"
  · subst hw
    rw [if_pos rfl]
    have q : List.lookup ("place" : Str) [(("place" : Str), v)] = some v := by simp [List.lookup]
    rw [q]
    exact r
  · rw [if_neg hw]
    have qw : (f == ("place" : Str)) = false := by simpa using hw
    have q2 : List.lookup f [(("place" : Str), v)] = none := by simp [List.lookup, qw]
    rw [q2]
    trivial
section
variable {X : Cx} {C fI : Addr}
/-- Low(e) -/
def tMkErr (C : Addr) (ta : TA) : St → Hp → XK → Prop := fun σ H Q => ta σ H fun vs H1 => ∃ v, vs = [v] ∧ ∀ d, H1 d = none → Q (.ref C) (some d) (upd H1 d (.xd [(("place" : Str), v)]))
theorem pmk_err {a : Expr} {ta : TA} {p pos : Pos} {k : Nat} (T : PySem.ErrX.ErrTxt X.K X.mg nmx C fI) (hr : Room k X.A) (ha : PA X [a] ta) (hg : Gl X nmx := by rfl)
    (he : starEach (a :: []) X.env = (false, eval a X.env) :: starEach [] X.env := by rfl) (hpl : (backTo pos (starEach [] X.env)).any (·.1) = false := by rfl) (hdb : (nmx == ("__debug__" : Str)) = false := by decide) :
    PMk X (.Call (.Name nmx p) [a] [] pos) (tMkErr C ta) := by
  intro pins s σ H Q I h
  refine wpAny_Call_Name_kw (ld_glob I hg T.gC ?_ hdb)
  refine PySem.W.callWith_K (h₀ := X.base) I.ok.mod.kin T.kC (thn (ha.run pos pins s σ H _ I h) fun us s1 hh => ?_) he hpl
  obtain ⟨vs, H1, I1, r1, v, ev, q1⟩ := hh
  subst ev
  refine ⟨I1.kIn, ?_⟩
  cases r1 with
  | cons rv rn =>
    rename_i v' us'
    cases rn
    show wpAny _ _ (call (.ref C) [v']) _ _ _
    have hlim := I1.nolimit
    obtain ⟨hp, g, dr, tk, os⟩ := s1
    refine wpAny_call (PySem.ErrX.err_made T I1.kIn hlim (by have := hr.dp; omega) fun h' tk' e d M => ?_)
    show MkP X pins σ Q (.ref e) ⟨h', g, dr, tk', os⟩
    obtain ⟨oe, fv, hoe, hc, hd, hdat, h1⟩ := M.obj
    have hns := M.ns
    obtain ⟨G', g1, g2⟩ := restrict h' fun b => decide (b ≠ e)
    have gk : ∀ b, b ≠ e → G'.get? b = h'.get? b := fun b hb => g1 b (decide_eq_true hb)
    have ge : G'.get? e = none := g2 e (by simp)
    have old : ∀ b o, hp.get? b = some o → G'.get? b = some o := fun b o q => (gk b (Nat.ne_of_lt (Nat.lt_of_lt_of_le (Heap.lt_size q) M.new))).trans (M.keep b o q)
    have ob : ObjOk X.prog X.w (upd H1 d (.xd [(("place" : Str), v)])) G' d (.xd [(("place" : Str), v)]) :=
      ⟨_, hns.at (fun o q => (gk d M.dne).trans q), fun f => relO_plc rv f⟩
    have J : Inv X pins σ (upd H1 d (.xd [(("place" : Str), v)])) ⟨G', g, dr, tk', os⟩ := I1.laid (t' := tk') old M.dbig ob
    refine ⟨e, oe, fv, ⟨G', g, dr, tk', os⟩, _, .ref C, some d, rfl, J, fun b o q => ?_, ge, hoe, ⟨hc, hd⟩, hdat, h1, ?_, rfl, I1.bare, raises_own T.exC T.tyC, q1 d (I1.hok.fresh M.dbig)⟩
    · by_cases hb : b = e
      · have q' : G'.get? b = some o := q
        rw [hb, ge] at q'; cases q'
      · exact (gk b hb).symm.trans q
    · rw [upd_ne (Ne.symm M.dne)]
      exact I1.hok.fresh M.new
/-- raise Low(e) -/
def tRaiseErr (C : Addr) (W : WX) (ta : TA) : TS := fun _ σ H => tMkErr C ta σ H fun cls d H' => W cls d σ H'
theorem ps_raiseErr {a : Expr} {ta : TA} {W : WX} {p pos pos2 : Pos} {k : Nat} (hc : X.calm = true) (T : PySem.ErrX.ErrTxt X.K X.mg nmx C fI) (hr : Room k X.A) (tk : Takes X W) (ha : PA X [a] ta) (hg : Gl X nmx := by rfl)
    (he : starEach (a :: []) X.env = (false, eval a X.env) :: starEach [] X.env := by rfl) (hpl : (backTo pos (starEach [] X.env)).any (·.1) = false := by rfl) (hdb : (nmx == ("__debug__" : Str)) = false := by decide) :
    PS X (.Raise (some (.Call (.Name nmx p) [a] [] pos)) none pos2) (tRaiseErr C W ta) := ps_raise hc tk (pmk_err T hr ha hg he hpl hdb)
/-- low.by, low the exception that the suite holds (at a; its class cls, its dict d) -/
def tPlcErr (C : Addr) (a : Addr) (cls : Value) (d : Option Addr) (te : TE) : TE := fun σ H Q => te σ H fun x H1 => x = .ref a ∧ cls = .ref C ∧ ∃ (dd : Addr) (v : V), d = some dd ∧ H1 dd = some (.xd [(("place" : Str), v)]) ∧ Q v H1
theorem pe_plcErr {a : Addr} {oe : Obj} {cls : Value} {d : Option Addr} {pn : List (Addr × Obj)} {e : Expr} {te : TE} {pos : Pos} (T : PySem.ErrX.ErrTxt X.K X.mg nmx C fI) (hz : Zc cls d oe) (hf : ∃ vs, oe.data = .fields vs) (he : PE (X.suite a ((a, oe) :: pn)) e te)
    (hb : attributeBase e "place" X.env (eval e X.env) = eval e X.env := by rfl) :
    PE (X.suite a ((a, oe) :: pn)) (.Attribute e "place" pos) (tPlcErr C a cls d te) := by
  refine ⟨fun pins s σ H Q I h => ?_⟩
  refine attr_of hb (thn (he.run pins s σ H _ I h) fun u s1 hh => ?_)
  obtain ⟨x, H1, I1, rx, ex, ec, dd, v, ed, ea, q⟩ := hh
  subst ex
  obtain rfl : u = Value.ref a := rx
  subst ec
  subst ed
  obtain ⟨ha, _⟩ := I1.pin (a, oe) (List.mem_append_left _ List.mem_cons_self)
  obtain ⟨vs, hd⟩ := hf
  have hx : ObjOk X.prog X.w H1 s1.heap dd (.xd [(("place" : Str), v)]) := I1.hok dd _ ea
  obtain ⟨mA, hns, hr⟩ := hx
  obtain ⟨od, ho, hl⟩ := lookIn_ns hns
  have l : List.lookup ("place" : Str) [(("place" : Str), v)] = some v := by simp [List.lookup]
  obtain ⟨u, hu, ru⟩ := RelO.some_of (v := v) (o := mA "place") (by rw [← l]; exact hr "place")
  have J : PySem.W.InstAt s1.heap a oe C (some od) := ⟨ha, hz.1, by unfold PySem.W.notCls; rw [hd] <;> rfl, by rw [hz.2]; exact ho⟩
  exact HandSPX.exc_get I1.kIn J T.ga T.gg T.exC (PySem.W.findObj_own T.hdC T.noN rfl (by rw [hl, hu])) (handed_of ru) ⟨v, H1, I1.tok _, ru, q⟩
end
end L2

namespace Vf
open PySem L2 PySem.Spec PyProof.Rows
/-- isinstance(e, c), e the error that the suite holds (at a; its class cls, its own dict d) -/
def rIsP (K : PySem.W.Frag) (D a : Addr) (cls : Value) (d : Option Addr) : List V → Hp → VK → Prop := fun xs H Q => cls = .ref D ∧ ∃ (dd : Addr) (pl c : V) (cv : Value) (b : Bool),
  d = some dd ∧ H dd = some (.xd [(("place" : Str), pl)]) ∧ xs = [.ref a, c] ∧ (∀ u, RelV c u → u = cv) ∧ PySem.W.kitOne K (.ref D) cv = some b ∧ Q (.bl b) H
theorem call_isP {X : Cx} {a D : Addr} {oe : Obj} {cls : Value} {d : Option Addr} {pn : List (Addr × Obj)} (C : ExcC X.K D) (hz : Zc cls d oe) (hf : ∃ vs, oe.data = .fields vs) : CallR (X.suite a ((a, oe) :: pn)) (.builtin "isinstance") (rIsP X.K D a cls d) := by
  intro pins s σ H xs us Q I r h
  obtain ⟨rfl, dd, pl, c, cv, b, rfl, ea, rfl, hcv, e, q⟩ := h
  obtain ⟨u1, u2, rfl, r1, r2⟩ := vals2 r
  cases (show u1 = Value.ref a from r1)
  have e2 := hcv _ r2
  subst e2
  obtain ⟨ha, _⟩ := I.pin (a, oe) (List.mem_append_left _ List.mem_cons_self)
  obtain ⟨vs, hd⟩ := hf
  obtain ⟨mA, hns, _⟩ := (show ObjOk X.prog X.w H s.heap dd (.xd [(("place" : Str), pl)]) from I.hok dd _ ea)
  obtain ⟨od, ho, _⟩ := lookIn_ns hns
  have J : PySem.W.InstAt s.heap a oe D (some od) := ⟨ha, hz.1, by unfold PySem.W.notCls; rw [hd] <;> rfl, by rw [hz.2]; exact ho⟩
  have hcl : (PySem.W.clsIn X.K D).isSome = true := by
    have h1 := C.hd
    unfold PySem.W.hasDictIn at h1
    cases h2 : PySem.W.clsIn X.K D with
    | none => rw [h2] at h1; cases h1
    | some cd => rfl
  exact PySem.W.kia_one (PySem.W.kitx_exc hcl C.hg C.hk C.hs C.ha C.hn C.ht C.hm) I.kIn J e (fun z => nomatch z) fun tk => ⟨.bl b, H, I.kept (t' := tk) fun _ _ z => z, rfl, q⟩
end Vf

namespace Vf
open PySem L2 PySem.Spec PyProof.Rows He
/-! ### the head's facts, and further ones that are yes or no -/
abbrev AlX : Type := AlD × Bool
def obsX (fa : List Fa) (fn : List DefD) (ex : List (PySem.W.Frag → Bool)) (K : PySem.W.Frag) : AlX := (obsD fa fn K, ex.all fun p => p K)
def obsXG (n : Nat) (fa : List Fa) (fn : List DefD) (ex : List (PySem.W.Frag → Bool)) (g : Addr → Option Obj) : AlX := obsX fa fn ex (frG g (asD g n))
def SaysX (fa : List Fa) (fn : List DefD) (ex : List (PySem.W.Frag → Bool)) (K : PySem.W.Frag) : Prop := SaysD fa fn K ∧ (ex.all fun p => p K) = true
def hookX (n : Nat) (fa : List Fa) (fn : List DefD) (ex : List (PySem.W.Frag → Bool)) : PySem.W.Hook where
  α := AlX
  obs := fun s => obsXG n fa fn ex s.heap.get?
  val := fun _ => (valD fn, true)
  says := fun _ h => ∃ K : PySem.W.Frag, K.In h ∧ SaysX fa fn ex K
  of := fun _ _ e => ⟨_, frG_in, congrArg (fun z : AlX => z.1) e, congrArg (fun z : AlX => z.2) e⟩
  keeps := fun _ _ _ ⟨K, hK, c⟩ k => ⟨K, PySem.W.Frag.In.keeps hK k, c⟩
theorem obsXG_eq {n : Nat} {fa : List Fa} {fn : List DefD} {ex : List (PySem.W.Frag → Bool)} {g : Addr → Option Obj} {s : Shared} (h : ∀ a, g a = s.heap.get? a) : obsXG n fa fn ex g = (hookX n fa fn ex).obs s := by
  have e : g = s.heap.get? := funext h
  rw [e] <;> rfl
theorem SaysX.more {fa : List Fa} {fn : List DefD} {ex : List (PySem.W.Frag → Bool)} {K : PySem.W.Frag} (c : SaysX fa fn ex K) (i : Nat) {p : PySem.W.Frag → Bool} (h : ex[i]? = some p := by rfl) : p K = true :=
  List.all_eq_true.mp c.2 p (List.mem_of_getElem? h)
/-! ### an own error, over ValueError through own classes, with __init__ from one of them -/
def errB (K : PySem.W.Frag) (C : Addr) : Bool := match K.lookup C with
  | some ⟨.type "type", _, .cls cd, sl⟩ => (match cd.mro, sl.toList with
    | .ref D :: bm, [_, _, _, _, some (.builtin n), _] => D == C && (n == "ValueError.__new__" && (!cd.hasDel && (cd.hasDict && PySem.HandSPX.refsVE bm)))
    | _, _ => false)
  | _ => false
theorem errB_ok {K : PySem.W.Frag} {C : Addr} (q : errB K C = true) : ∃ nm qn N bs bm sn sub ab col dd k0 k1 k2 k3 k5, K.lookup C = some (excClassObj nm qn C N bs bm true sn sub ab col dd k0 k1 k2 k3 k5 "ValueError.__new__") ∧ PySem.HandSPX.refsVE bm = true := by
  unfold errB at q
  split at q
  · rename_i dd cd sl ho
    split at q
    · rename_i D bm k0 k1 k2 k3 n k5 hm hs
      simp only [Bool.and_eq_true, beq_iff_eq, Bool.not_eq_true'] at q
      obtain ⟨rfl, rfl, hdel, hdi, hv⟩ := q
      obtain ⟨nm, bs, mro, ns, qn, hd, sn, sub, ab, col, del⟩ := cd
      dsimp only at hm hdel hdi
      subst hm hdel hdi
      obtain ⟨l⟩ := sl
      simp only at hs
      subst hs
      exact ⟨nm, qn, ns, bs, bm, sn, sub, ab, col, dd, k0, k1, k2, k3, k5, ho, hv⟩
    · cases q
  · cases q
def errAll (x bx : Str) (K : PySem.W.Frag) : Bool :=
  errB K (ga K x) && (eqO (PySem.W.findIn K (.ref (ga K x)) "__setattr__") (some (some (.builtin "object.__setattr__"))) && (eqO (PySem.W.findIn K (.ref (ga K x)) "__getattribute__") (some (some (.builtin "BaseException.__getattribute__"))) &&
  (eqO (PySem.W.findIn K (.ref (ga K x)) "__getattr__") (some none) && (eqO (PySem.W.findIn K (.ref (ga K x)) "place") (some none) && (eqO (PySem.W.findIn K (.ref (ga K x)) "__init__") (some (some (.ref (ma K (ga K bx) "__init__")))) &&
  (decide (PySem.W.typeIn K (.ref (ma K (ga K bx) "__init__")) = some (.type "function")) && (PySem.W.keepIn K (.ref (ga K x)) && (decide (PySem.W.subIn K (.ref (ga K x)) (.type "BaseException") = some true) && (decide (PySem.W.typeIn K (.ref (ga K x)) = some (.type "type")) &&
  (PySem.W.hasDictIn K (ga K x) && (decide (PySem.W.exmOne K (.ref (ga K x)) (.ref (ga K x)) = some true) && (decide (PySem.W.exmOne K (.ref (ga K x)) (.ref (ga K bx)) = some true) && (eqO (PySem.W.findIn K (.ref (ga K x)) "__class__") (some (some (.builtin "object.__class__"))) &&
  (eqO (PySem.W.specialIn K (.builtin "object.__class__") "__get__") (some (some (.builtin "getset_descriptor.__get__"))) && (decide (PySem.W.takesIn K (.builtin "object.__class__") = some true) && (decide (PySem.W.mroIn K (ga K x) (.type "object") = some true) &&
  (decide (PySem.W.kitOne K (.ref (ga K x)) (.ref (ga K x)) = some true) && (decide (PySem.W.kitOne K (.ref (ga K x)) (.ref (ga K bx)) = some true) && decide (PySem.W.kitOne K (.ref (ga K x)) (.type "ValueError") = some true)))))))))))))))))))
structure ErrAll (K : PySem.W.Frag) (mg : Str → Option Value) (x bx : Str) : Prop where
  er : PySem.ErrX.ErrTxt K mg x (ga K x) (ma K (ga K bx) "__init__")
  gB : mg bx = some (.ref (ga K bx))
  ec : ExcC K (ga K x)
  xb : PySem.W.exmOne K (.ref (ga K x)) (.ref (ga K bx)) = some true
  ii : PySem.W.kitOne K (.ref (ga K x)) (.ref (ga K x)) = some true
  ib : PySem.W.kitOne K (.ref (ga K x)) (.ref (ga K bx)) = some true
  iv : PySem.W.kitOne K (.ref (ga K x)) (.type "ValueError") = some true
theorem errAll_ok {K : PySem.W.Frag} {h : Heap} {mg : Str → Option Value} {x bx : Str} {fd : FuncData} {p1 p2 q1 q2 q3 q4 : Pos} (X : K.In h) (G : h.Ns mainGlobals mg) (c1 : (Fa.glo x).ok K = true) (c2 : (Fa.glo bx).ok K = true) (ce : errAll x bx K = true)
    (F : FunD K "__init__" "FolderkinError.__init__" (PySem.ErrX.iA p1 p2) (PySem.ErrX.iB q1 q2 q3 q4) PySem.ErrX.iS [] [] (ma K (ga K bx) "__init__") fd) : ErrAll K mg x bx := by
  obtain ⟨e1, ce⟩ := ba ce
  obtain ⟨e2, ce⟩ := ba ce
  obtain ⟨e3, ce⟩ := ba ce
  obtain ⟨e4, ce⟩ := ba ce
  obtain ⟨e5, ce⟩ := ba ce
  obtain ⟨e6, ce⟩ := ba ce
  obtain ⟨e7, ce⟩ := ba ce
  obtain ⟨e8, ce⟩ := ba ce
  obtain ⟨e9, ce⟩ := ba ce
  obtain ⟨e10, ce⟩ := ba ce
  obtain ⟨e11, ce⟩ := ba ce
  obtain ⟨e12, ce⟩ := ba ce
  obtain ⟨e13, ce⟩ := ba ce
  obtain ⟨e14, ce⟩ := ba ce
  obtain ⟨e15, ce⟩ := ba ce
  obtain ⟨e16, ce⟩ := ba ce
  obtain ⟨e17, ce⟩ := ba ce
  obtain ⟨e18, ce⟩ := ba ce
  obtain ⟨e19, e20⟩ := ba ce
  obtain ⟨oc, od, dV, kV, doc, pm, an, cdv, ct, osl, rfl, lk, hcd, dfl, _⟩ := F.ex
  have ed : dV = .none := by
    rcases dfl with ⟨_, h⟩ | ⟨h, _⟩
    · exact h
    · exact absurd rfl h
  subst ed
  exact { er := { gC := glo_ok X G c1, cls := errB_ok e1, sa := eqO_ok e2, ga := eqO_ok e3, gg := eqO_ok e4, noN := eqO_ok e5, iC := eqO_ok e6, tC := of_decide_eq_true e7, kC := e8, exC := of_decide_eq_true e9, tyC := of_decide_eq_true e10, hdC := e11, te := of_decide_eq_true e12,
                  fn := ⟨oc, od, kV, doc, pm, an, cdv, ct, osl, p1, p2, q1, q2, q3, q4, lk, hcd⟩ },
          gB := glo_ok X G c2, ec := ⟨eqO_ok e3, eqO_ok e4, of_decide_eq_true e9, e11, eqO_ok e14, eqO_ok e15, of_decide_eq_true e16, of_decide_eq_true e17⟩,
          xb := of_decide_eq_true e13, ii := of_decide_eq_true e18, ib := of_decide_eq_true e19, iv := of_decide_eq_true e20 }
/-! ### calls of a def that may raise -/
structure CalX (P : Program) (w : World) (K : PySem.W.Frag) (mg : Str → Option Value) (base : Heap) (k : Nat) (x : Str) (sp : Sp) : Prop where
  ex : ∃ (f : Addr) (fd : FuncData) (ps : List Str), FnOk P w K mg base (L2.CX P w) k f fd ps sp ∧ mg x = some (.ref f) ∧ PySem.W.keepIn K (.ref f) = true ∧ Binds K fd ps []
theorem pe_cX {X : Cx} {k j : Nat} {x : Str} {sp : Sp} {p pos : Pos} {e : Expr} {es : List Expr} {t : TA} {W : WX} (c : CalX X.prog X.w X.K X.mg X.base k x sp) (hr : Room j X.A) (hk : k ≤ j) (tk : Takes X W) (hg : Gl X x) (ha : PA X (e :: es) t)
    (hdb : (x == ("__debug__" : Str)) = false := by decide) (he : starEach (e :: es) X.env = (false, eval e X.env) :: starEach es X.env := by rfl)
    (hpl : (backTo pos (starEach es X.env)).any (·.1) = false := by rfl) : PE X (.Call (.Name x p) (e :: es) [] pos) (tCallS sp (WE W) t) := by
  obtain ⟨f, fd, ps, F, hm, kp, b⟩ := c.ex
  exact pe_callS F (hr.mono hk) hg hm kp b (fun σ => passAt tk σ) ha hdb he hpl
/-- promises of a def that may raise, by arity -/
abbrev sp1X (R : V → Hp → VK → XK → Prop) : Sp := fun vs H Q E => ∃ a, vs = [a] ∧ R a H Q E
end Vf

namespace Vf
open PySem L2 PySem.Spec PyProof.Rows
/-- x == y, x an instance of a class with its own __eq__ that answers True or False; y one too, or a tuple -/
def rEqO (K : PySem.W.Frag) (C : Addr) (sp : Sp) (E : XK) : R2 := fun x y H Q => ∃ (a b dx : Addr) (fs : List (Str × V)), x = .ref a ∧ y = .ref b ∧ H a = some (.ins C dx fs) ∧
  ((∃ (dy : Addr) (gs : List (Str × V)), H b = some (.ins C dy gs)) ∨ (PySem.W.notFirst K C (.type "tuple") = true ∧ ∃ ys, SqT K H b ys)) ∧ sp [x, y] H (fun z H' => ∃ t, z = .bl t ∧ Q z H') E
theorem op_eqOwn {X : Cx} {CX : CXT} {C f : Addr} {fd : FuncData} {ps : List Str} {sp : Sp} {E : XK} {n : Nat} (F : FnOk X.prog X.w X.K X.mg X.base CX n f fd ps sp)
    (hs : PySem.W.findIn X.K (.ref C) "__eq__" = some (some (.ref f))) (hf : PySem.W.isFn X.K (.ref f) = true) (hb : Binds X.K fd ps []) (hx : Passes CX X E) (hr : Room n X.A) : OpR X (compareOp .Eq) (rEqO X.K C sp E) := by
  intro pins s σ H x y v u Q I rx ry q
  obtain ⟨a, b, dx, fs, rfl, rfl, ha, hy, hsp⟩ := q
  cases rx
  cases ry
  obtain ⟨mA, J, _⟩ := ins_get I.hok ha
  obtain ⟨od, J, _⟩ := J.look
  obtain ⟨m, hF⟩ := I.fr
  have go : ∀ tb : Value, PySem.W.Looks (model X.prog X.w) s.heap (typeOf (.ref b)) tb → PySem.W.notFirst X.K C tb = true → wpAny (model X.prog X.w) X.A (richCompare .Eq (.ref a) (.ref b)) (EP X pins σ Q) X.xe s := fun tb ht hn => by
    refine PySem.W.cmp_K (op := .Eq) (tb := tb) hr.units0 hF I.ok.mod.kin J ht hn hs hf ?_
    have hl := F.len _ _ _ _ hsp
    have r2 : Vals [V.ref a, V.ref b] [Value.ref a, Value.ref b] := .cons rfl (.cons rfl .nil)
    refine wpAny_call (codeAny_mono (F.run X.A X.stack s H ⟨[.ref a, .ref b], []⟩ [.ref a, .ref b] [.ref a, .ref b] _ E hr I.env0 (by
      have := hb s [.ref a, .ref b] I.kIn (by simpa using hl)
      simpa using this) r2 hsp) fun r s' hq => ?_)
    cases r with
    | error e => exact hx pins σ H s e s' I hq
    | ok fl =>
      cases fl with
      | ret w =>
        obtain ⟨z, H', I', rz, t, ez, hQ⟩ := I.after hq
        subst ez
        cases rz
        exact ⟨.bl t, H', I', rfl, hQ⟩
      | next => exact False.elim hq
      | brk => exact False.elim hq
      | cont => exact False.elim hq
  rcases hy with ⟨dy, gs, hy⟩ | ⟨hn, ys, hy⟩
  · obtain ⟨mB, J', _⟩ := ins_get I.hok hy
    obtain ⟨od', J', _⟩ := J'.look
    exact go (.ref C) J'.type (by simp [PySem.W.notFirst])
  · obtain ⟨its, rv, ⟨o, ho, hc, _⟩, _⟩ := I.tuple hy
    exact go (.type "tuple") (fun A Q E s' k z => wpAny_typeOf (T := "tuple") ⟨o, k _ _ ho, hc⟩ z) hn
end Vf

namespace Vf
open PySem L2 PySem.Spec PyProof.Rows He
/-! ### an own class: all yes-or-no facts of it -/
def clsB (x : Str) (K : PySem.W.Frag) : Bool :=
  eqO (PySem.W.findIn K (.ref (ga K x)) "__class__") (some (some (.builtin "object.__class__"))) &&
  (eqO (PySem.W.specialIn K (.builtin "object.__class__") "__get__") (some (some (.builtin "getset_descriptor.__get__"))) && (decide (PySem.W.takesIn K (.builtin "object.__class__") = some true) &&
  (decide (PySem.W.mroIn K (ga K x) (.type "object") = some true) && (decide (PySem.W.kitOne K (.ref (ga K x)) (.ref (ga K x)) = some true) && (decide (PySem.W.kitOne K (.type "tuple") (.ref (ga K x)) = some false) && PySem.W.notFirst K (ga K x) (.type "tuple"))))))
structure ClsT (K : PySem.W.Frag) (x : Str) : Prop where
  ha : PySem.W.findIn K (.ref (ga K x)) "__class__" = some (some (.builtin "object.__class__"))
  hn : PySem.W.specialIn K (.builtin "object.__class__") "__get__" = some (some (.builtin "getset_descriptor.__get__"))
  htk : PySem.W.takesIn K (.builtin "object.__class__") = some true
  hm : PySem.W.mroIn K (ga K x) (.type "object") = some true
  own : PySem.W.kitOne K (.ref (ga K x)) (.ref (ga K x)) = some true
  tup : PySem.W.kitOne K (.type "tuple") (.ref (ga K x)) = some false
  nf : PySem.W.notFirst K (ga K x) (.type "tuple") = true
theorem clsB_ok {x : Str} {K : PySem.W.Frag} (c : clsB x K = true) : ClsT K x := by
  unfold clsB at c
  obtain ⟨c1, c⟩ := ba c
  obtain ⟨c2, c⟩ := ba c
  obtain ⟨c3, c⟩ := ba c
  obtain ⟨c4, c⟩ := ba c
  obtain ⟨c5, c⟩ := ba c
  obtain ⟨c6, c7⟩ := ba c
  exact ⟨eqO_ok c1, eqO_ok c2, of_decide_eq_true c3, of_decide_eq_true c4, of_decide_eq_true c5, of_decide_eq_true c6, c7⟩
/-- == by its own __eq__ -/
def eqB (x : Str) (K : PySem.W.Frag) : Bool := eqO (PySem.W.findIn K (.ref (ga K x)) "__eq__") (some (some (.ref (ma K (ga K x) "__eq__")))) && PySem.W.isFn K (.ref (ma K (ga K x) "__eq__"))
structure EqC (P : Program) (w : World) (K : PySem.W.Frag) (mg : Str → Option Value) (base : Heap) (k : Nat) (x : Str) (sp : Sp) : Prop where
  ex : ∃ (f : Addr) (fd : FuncData) (ps : List Str), FnOk P w K mg base CX0 k f fd ps sp ∧ PySem.W.findIn K (.ref (ga K x)) "__eq__" = some (some (.ref f)) ∧ PySem.W.isFn K (.ref f) = true ∧ Binds K fd ps []
theorem op_eqC {X : Cx} {k j : Nat} {x : Str} {sp : Sp} (c : EqC X.prog X.w X.K X.mg X.base k x sp) (hr : Room j X.A) (hk : k ≤ j) : OpR X (compareOp .Eq) (rEqO X.K (ga X.K x) sp E0) := by
  obtain ⟨f, fd, ps, F, hs, hf, hb⟩ := c.ex
  exact op_eqOwn F hs hf hb pass0 (hr.mono hk)
/-- C(e, .., k = v) -/
structure MakN (P : Program) (w : World) (K : PySem.W.Frag) (mg : Str → Option Value) (base : Heap) (k : Nat) (x : Str) (C : Addr) (sp : Sp) (n : Nat) (ks : List Str) (gV : List V → List V → List V) : Prop where
  ex : ∃ (f : Addr) (fd : FuncData) (ps : List Str) (g : List Value → List Value → List Value), Mk K C f ∧ FnOk P w K mg base CX0 k f fd ps sp ∧ mg x = some (.ref C) ∧ KBn K fd ps (n + 1) ks g gV
theorem pe_mkN {X : Cx} {k j n : Nat} {C : Addr} {x : Str} {sp : Sp} {p pos : Pos} {e : Expr} {es : List Expr} {kws : List Keyword} {ks : List Str} {t tk : TA} {gV : List V → List V → List V} (c : MakN X.prog X.w X.K X.mg X.base k x C sp n ks gV) (hr : Room j X.A) (hk : k + 1 ≤ j) (hg : Gl X x)
    (ha : PA X (e :: es) t) (hkw : PK X kws tk) (hall : (backToKw pos (keywordEach kws X.env)).all (·.1.isSome) = true := by rfl) (hks : (backToKw pos (keywordEach kws X.env)).filterMap (·.1) = ks := by rfl)
    (hdb : (x == ("__debug__" : Str)) = false := by decide) (he : starEach (e :: es) X.env = (false, eval e X.env) :: starEach es X.env := by rfl)
    (hpl : ((backTo pos (starEach (e :: es) X.env)).any (·.1) || (backToKw pos (keywordEach kws X.env)).any (·.1.isNone)) = false := by rfl) :
    PE X (.Call (.Name x p) (e :: es) kws pos) (tMakeN C n ks.length sp gV E0 t tk) := by
  obtain ⟨f, fd, ps, g, M, F, hm, b⟩ := c.ex
  exact pe_makeN M F (hr.mono hk) hg hm b pass0 ha hkw hall hks hdb he hpl
theorem e_tMake {C : Addr} {sp : Sp} {dvs : List V} {E : XK} {t : TA} {σ : L2.St} {H : Hp} {Q : VK} (q : t σ H fun vs H1 => ∀ x dx, H1 x = none → H1 dx = none → dx ≠ x → sp (.ref x :: (vs ++ dvs)) (upd (upd H1 dx (.own x)) x (.ins C dx [])) (fun v H2 => v = .non ∧ Q (.ref x) H2) E) : tMake C sp dvs E t σ H Q := q
theorem e_tMakeN {C : Addr} {n m : Nat} {sp : Sp} {gV : List V → List V → List V} {E : XK} {t tk : TA} {σ : L2.St} {H : Hp} {Q : VK} (q : t σ H fun vs H1 => tk σ H1 fun zs H2 => vs.length = n ∧ zs.length = m ∧
  ∀ x dx, H2 x = none → H2 dx = none → dx ≠ x → sp (gV (.ref x :: vs) zs) (upd (upd H2 dx (.own x)) x (.ins C dx [])) (fun v H3 => v = .non ∧ Q (.ref x) H3) E) : tMakeN C n m sp gV E t tk σ H Q := q
/-! ### == and != of data with any texts -/
def rEqP (K : PySem.W.Frag) : R2 := fun x y H Q => ∃ d e, Dp K H x d ∧ Dp K H y e ∧ d.plain = true ∧ e.plain = true ∧ d.depth ≤ 60 ∧ Q (.bl (PyData.eqv d e)) H
def rNeP (K : PySem.W.Frag) : R2 := fun x y H Q => ∃ d e, Dp K H x d ∧ Dp K H y e ∧ d.plain = true ∧ e.plain = true ∧ d.depth ≤ 60 ∧ Q (.bl (!PyData.eqv d e)) H
theorem op_eqP {X : Cx} (hu : X.A.units + 64 < cLine) : OpR X (compareOp .Eq) (rEqP X.K) := by
  intro pins s σ H x y v u Q I rx ry h
  obtain ⟨d, e, hd, he, sd, se, hp, q⟩ := h
  obtain ⟨as, r1⟩ := Dp.reads I d x v hd rx
  obtain ⟨bs, r2⟩ := Dp.reads I e y u he ry
  exact PySem.SeqAt.eq_plain r1 r2 sd se (by omega) ⟨.bl _, H, I, rfl, q⟩
theorem op_neP {X : Cx} (hu : X.A.units + 64 < cLine) : OpR X (compareOp .NotEq) (rNeP X.K) := by
  intro pins s σ H x y v u Q I rx ry h
  obtain ⟨d, e, hd, he, sd, se, hp, q⟩ := h
  obtain ⟨as, r1⟩ := Dp.reads I d x v hd rx
  obtain ⟨bs, r2⟩ := Dp.reads I e y u he ry
  exact PySem.SeqAt.ne_plain r1 r2 sd se (by omega) ⟨.bl _, H, I, rfl, q⟩
end Vf

namespace Vf
open PySem L2 PySem.Spec PyProof.Rows He
/-! ### t[::-1] of a pair -/
section
variable {prog : Program} {w : World} {A : Around} {E : Value → Shared → Prop} {s : Shared}
theorem rev2_applied {sl : Addr} {u : Tok} {Q : Int × Int × Nat → Shared → Prop} (hs : s.heap.IsSliceOf sl .none .none (.int (-1) u)) (h : Q (1, -1, 2) s) :
    wpAny (model prog w) A (Builtin.Slice.sliceApplied (.ref sl) (pure ((2 : Nat) : Int))) Q E s := by
  obtain ⟨os, hos, hcs, hds⟩ := id hs
  unfold Builtin.Slice.sliceApplied Builtin.Slice.sliceFields
  refine wpAny_bind (wpAny_bind (wpAny_field hos hds (x := .none) rfl (wpAny_bind (wpAny_field hos hds (x := .none) rfl (wpAny_bind (wpAny_field hos hds (x := .int (-1) u) rfl (wpAny_pure ?_)))))))
  refine wpAny_bind (slicePart_int ?_)
  show wpAny _ _ (if ((-1 : Int) == 0) = true then _ else _) _ _ s
  rw [if_neg (by decide)]
  refine wpAny_bind (slicePart_none (wpAny_bind (slicePart_none (wpAny_bind (wpAny_pure ?_)))))
  show wpAny _ _ (match Builtin.Slice.sliceAdjust none none (-1) ((2 : Nat) : Int) with | (lo, hi) => pure (lo, (-1 : Int), Builtin.Slice.slicePlaces lo hi (-1))) _ _ s
  exact wpAny_pure h
theorem getItem_pair_rev {t sl : Addr} {v0 v1 : Value} {u : Tok} {Q : Value → Shared → Prop} (ht : IsTup s.heap t #[v0, v1]) (hs : s.heap.IsSliceOf sl .none .none (.int (-1) u))
    (h : Q (.ref s.heap.objs.size) { s with heap := s.heap.push { cls := .type "tuple", data := .seq #[v1, v0] } }) : wpAny (model prog w) A (getItem (.ref t) (.ref sl)) Q E s := by
  obtain ⟨os, hos, hcs, hds⟩ := id hs
  have hTs : s.TypeIs (.ref sl) "slice" := ⟨os, hos, hcs⟩
  unfold getItem
  try with_reducible refine wpAny_holding ?_
  first | refine wpAny_bind (wpAny_pure ?_) | skip
  refine wpAny_bind (wpAny_sequenceKey ht.typeIs (by decide) ?_)
  refine wpAny_bind (wpAny_callSpecial?_slot (name := Str.ofString "__getitem__") ht.typeIs PyProof.Rows.slot_tuple_getitem
    (wpAny_call_entry PyProof.Rows.slot_tuple_getitem ht.typeIs entry_tuple_getitem ?_ (args_tuple_getitem _ _)))
  show wpAny _ _ (Builtin.Tuple.tupleItemsOf (.ref t) >>= _) _ _ s
  refine wpAny_bind (tupleItemsOf_ ht ?_)
  refine wpAny_bind (wpAny_typeOf hTs ?_)
  rw [if_pos (by decide)]
  refine wpAny_bind (rev2_applied hs ?_)
  show wpAny _ _ (if (((1 : Int)) == 0 && (-1 : Int) == 1 && ((2 : Nat) == 2)) = true then _ else _) _ _ s
  rw [if_neg (by decide)]
  have hz : sizeOk (.seq #[v1, v0]) := by show (2 : Nat) ≤ sizeLine; decide
  first
    | exact wpAny_bind (m := Builtin.Tuple.tupleExact _) (wpAny_newObj_type (wpAny_pure ⟨_, rfl, wpAny_pure h⟩) hz)
    | exact wpAny_bind (m := Builtin.Tuple.tupleExact _) (wpAny_newObj_type (wpAny_bind (wpAny_pure (wpAny_pure ⟨_, rfl, wpAny_pure h⟩))) hz)
    | exact wpAny_bind (wpAny_bind (m := Builtin.Tuple.tupleExact _) (wpAny_newObj_type (wpAny_pure (wpAny_pure ⟨_, rfl, wpAny_pure h⟩)) hz))
    | exact wpAny_bind (wpAny_bind (m := Builtin.Tuple.tupleExact _) (wpAny_newObj_type (wpAny_pure ⟨_, rfl, wpAny_pure h⟩) hz))
end
section
variable {X : Cx}
def tRevT (K : PySem.W.Frag) (te : TE) : TE := fun σ H Q => te σ H fun x H1 => ∃ a u v, x = .ref a ∧ SqT K H1 a [u, v] ∧ ∀ p, H1 p = none → Q (.ref p) (upd H1 p (.tup [v, u]))
theorem pe_revT {e : Expr} {te : TE} {k : Nat} {p1 p2 p3 pos : Pos} (he : PE X e te) : PE X (.Subscript e (.Slice none none (some (.UnaryOp .USub (.Constant (.int 1) k p1) p2)) p3) pos) (tRevT X.K te) := by
  refine ⟨fun pins s σ H Q I h => ?_⟩
  refine Subscript_ (thn (he.run pins s σ H _ I h) fun v s1 ⟨x, H1, I1, r1, q1⟩ => ?_)
  obtain ⟨a, x0, x1, ex, hx, q⟩ := q1
  subst ex
  cases r1
  have hst : PO X (some (.UnaryOp .USub (.Constant (.int 1) k p1) p2)) (tPart (tUn (rU fun i => .int (-i)) (tC (.int 1)))) := po_some (pe_un un_neg pe_int)
  refine wpAny_Slice (thn (po_none.run pins s1 σ H1 (fun o H2 => o = none ∧ H2 = H1) I1 ⟨rfl, rfl⟩) fun vl s2 ⟨l, H2, I2, pl, el, e2⟩ => ?_)
  subst el e2
  refine thn (po_none.run pins s2 σ H2 (fun o H3 => o = none ∧ H3 = H2) I2 ⟨rfl, rfl⟩) fun vu s3 ⟨u, H3, I3, pu, eu, e3⟩ => ?_
  subst eu e3
  refine thn (hst.run pins s3 σ H3 (fun o H4 => o = some (-1) ∧ H4 = H3) I3 ⟨1, rfl, -1, rfl, rfl, rfl⟩) fun vs s4 ⟨o, H4, I4, ps, eo, e4⟩ => ?_
  subst eo e4
  cases pl
  cases pu
  cases ps with
  | int i tk =>
  have I5 : Inv X pins σ H4 { s4 with heap := s4.heap.push { cls := .type "slice", data := .fields #[.none, .none, .int (-1) tk] } } := I4.kept (t' := s4.toks) fun b ob q => Heap.get?_push_of_some _ q
  obtain ⟨its, r, ht, hz⟩ := I5.tuple hx
  obtain ⟨w0, w1, rfl, rv0, rv1⟩ := vals2 r
  show wpAny (model X.prog X.w) X.A (subscriptTail e (.Slice none none (some (.UnaryOp .USub (.Constant (.int 1) k p1) p2)) p3) (.ref a) (.ref s4.heap.objs.size)) (EP X pins σ Q) X.xe { s4 with heap := s4.heap.push { cls := .type "slice", data := .fields #[.none, .none, .int (-1) tk] } }
  refine tail_any (ops := [.ref a, .ref s4.heap.objs.size]) ht.typeIs PyProof.Rows.slot_tuple_getitem.lookup ?_ (by with_unfolding_all rfl)
  refine getItem_pair_rev ht (Heap.IsSliceOf.new _ _ _ _) ?_
  refine ⟨.ref _, _, I5.laid (t' := s4.toks) (o := .tup [x1, x0]) (fun b ob q => Heap.get?_push_of_some _ q) (Nat.le_refl _) ?_, rfl, q _ (I5.hok.fresh (Nat.le_refl _))⟩
  exact ⟨by show (2 : Nat) ≤ sizeLine; decide, _, .cons rv1 (.cons rv0 .nil), IsTup.new _ _⟩
/-! ### del d[t], the keys tuples -/
def sDDelT (td ty : TE) : TS := fun D σ H => td σ H fun x H1 => ty σ H1 fun y H2 => ∃ a kvs k b, x = .ref a ∧ H2 a = some (.dT kvs) ∧ y = .ref b ∧ H2 b = some (.tup (k.map kV)) ∧ (valV kvs k).isSome = true ∧ D.nx σ (upd H2 a (.dT (dropK kvs k)))
theorem ps_ddelT {o i : Expr} {pos tpos : Pos} {td ty : TE} (hu : X.A.units + 1 < cLine) (ho : PE X o td) (hi : PE X i ty) : PS X (.Delete [.Subscript o i tpos] pos) (sDDelT td ty) := by
  refine ⟨fun pins s σ H D I h => ?_⟩
  refine wpAny_Delete (wpAny_deleteEach_cons (wpAny_delete_Subscript (thn (ho.run pins s σ H _ I h) fun u s1 ⟨x, H1, I1, rx, q1⟩ => thn (hi.run pins s1 σ H1 _ I1 q1) fun iv s2 ⟨y, H2, I2, ry, a, kvs, k, b, ex, e, ey, eb, l, q2⟩ => ?_)))
  subst ex ey
  obtain rfl : u = Value.ref a := rx
  obtain rfl : iv = Value.ref b := ry
  obtain ⟨z, hd, xs, rel, dd⟩ := dt_of I2.hok e
  have hz : xs.length ≤ sizeLine := by rw [← Paired.length rel]; exact z
  obtain ⟨v0, ev⟩ := Option.isSome_iff_exists.mp l
  obtain ⟨w', hw, rw'⟩ := RelO.some_of (v := v0) (o := (atKey xs k).map (·.2)) (by rw [← ev]; exact rel.val k)
  obtain ⟨p, hp, hp2⟩ := Option.map_eq_some_iff.mp hw
  refine wpAny_delItem_heap (hsz := hz) (knd := tupleKind (mixKind X.prog X.w)) (tupleKind_room_in1 hu) (key_of I2.hok eb) hd dd hp fun h' dd' hs => ?_
  obtain ⟨q, es, ep, hq, h2, h3, h4, _, h5⟩ := dd'
  have I3 : Inv X pins σ (upd H2 a (.dT (dropK kvs k))) { s2 with heap := h', toks := s2.toks + (tupleKind (mixKind X.prog X.w)).draws k } :=
    d_write I2 (by rw [e]; exact True.intro) hs ⟨q, hq⟩ ⟨Nat.le_trans (dropK_le kvs k) z, hd, _, (DX.KT_drop k rel).keeps (fun c ys ec => (by rw [upd_ne (ne_of ec e (fun z => nomatch z))]; exact ec)), q, es, ep, hq, h2, h3, h4, h5⟩
  exact wpAny_deleteEach_nil ⟨σ, _, I3, q2⟩
end
end Vf

namespace Vf
open PySem L2 PySem.Spec PyProof.Rows He
theorem un65 {k : Nat} {A : Around} (r : Room k A) : A.units + 65 < cLine := by have := r.un; omega
/-! ### d.values() of a dict whose keys are tuples -/
def Itdt (d : Addr) (o : Obj) (kvs : List (List L2.Key × V)) : It :=
  ⟨fun i H => H d = some (.frz o (.dT kvs)) ∧ i < kvs.length, fun i H x H' => H' = H ∧ ∃ k, kvs[i]? = some (k, x), fun i H => H d = some (.frz o (.dT kvs)) ∧ kvs.length ≤ i⟩
theorem frzTV {X : Cx} {pins : List (Addr × Obj)} {σ : L2.St} {H : Hp} {s : Shared} {d : Addr} {o : Obj} {kvs : List (List L2.Key × V)} (I : Inv X pins σ H s) (h : H d = some (.frz o (.dT kvs))) :
    (d == sysModules) = false ∧ ∃ (es : Array DictEntry) (ep : Nat), o.data = .dict es ep ∧ s.heap.DictRaw d es ep ∧ es.size = kvs.length ∧
      ∀ (i : Nat) (k : List L2.Key) (v : V), kvs[i]? = some (k, v) → ∃ hi : i < es.size, RelV v es[i].val := by
  obtain ⟨hd, z, hs, xs, pr, o', es, ep, ho, hx, hdt, he, _⟩ := I.hok d _ h
  rw [hd] at ho
  cases ho
  have l1 : es.size = xs.length := size_of_entries he
  have l2 : kvs.length = xs.length := Paired.length pr
  refine ⟨hs, es, ep, hdt, ⟨o, hd, hx, hdt⟩, by omega, fun i k v e => ?_⟩
  obtain ⟨b, hb, e1, e2, e3⟩ := L2.paired_get pr e
  have q := entry_at he i
  rw [hb] at q
  obtain ⟨hi, q2⟩ := Array.getElem?_eq_some_iff.mp q
  exact ⟨hi, by rw [q2]; exact e3⟩
section
variable {P : Program} {w : World} {K : PySem.W.Frag} {tg : Expr} {d : Addr} {o : Obj} {es : Array DictEntry} {ep : Nat}
theorem turn_valsT {kvs : List (List L2.Key × V)} (it : Addr) (hod : o.data = .dict es ep) (hz : es.size = kvs.length) : Turn P w K tg (Itdt d o kvs) [it] it (fun i h => h.IsValIter it d i es.size ep) where
  mem := by simp
  obj := fun i h st b hb => by
    have e : b = it := by simpa using hb
    subst e
    obtain ⟨oi, e, c, dd⟩ := st
    exact ⟨oi, e, fun v z => by rw [dd] at z; cases z⟩
  keep := fun i h h' st k => st.at fun oi e => k it (by simp) oi e
  item := by
    intro X hP hw hK hc i pins s σ H E I hf st hg
    subst hP hw hK
    obtain ⟨hd, hi⟩ := hg
    obtain ⟨f0, f1, f2, f3, f4, f5⟩ := hf it (by simp)
    obtain ⟨hs, es', ep', hdt, hm, hsz, ent⟩ := frzTV I hd
    obtain ⟨rfl, rfl⟩ := dict_ep hod hdt
    obtain ⟨⟨k, v⟩, hkv⟩ : ∃ p, kvs[i]? = some p := ⟨kvs[i], List.getElem?_eq_getElem hi⟩
    obtain ⟨hi2, ru⟩ := ent i k v hkv
    refine PySem.wpAny_pyNext_values_item_raw st hm hi2 fun h' st' sb => ?_
    have I1 : Inv X pins σ H { s with heap := h' } := I.turned (t' := s.toks) (fun b ob hb e => (sb.2 b hb).trans e) f0 f1 f3 f4 f5
    obtain ⟨oi, e, c, dd⟩ := id st'
    exact ⟨_, rfl, go_of (s := { s with heap := h' }) e c dd (by decide) ⟨v, H, I1, ru, ⟨rfl, k, hkv⟩, st', fun b hb => (hf b hb).1⟩⟩
  done := by
    intro X hP hw hK hc i pins s σ H E I hf st hg
    subst hP hw hK
    obtain ⟨hd, hi⟩ := hg
    obtain ⟨f0, f1, f2, f3, f4, f5⟩ := hf it (by simp)
    obtain ⟨hs, es', ep', hdt, hm, hsz, ent⟩ := frzTV I hd
    obtain ⟨rfl, rfl⟩ := dict_ep hod hdt
    exact PySem.wpAny_pyNext_values_end_raw (I.ok.hd hc) st hm (by omega) fun h' eb => ⟨rfl, I.turned (t' := s.toks) (fun b ob hb e => eb b ob hb e) f0 f1 f3 f4 f5⟩
  self := fun A i s Q E st h => wpAny_pyIter_valiter st h
end
section
variable {X : Cx} {tg e : Expr} {td : TE} {apos cpos : Pos}
def iValsT (td : TE) : TI := fun σ H R => td σ H fun x H1 => ∃ d o kvs, x = .ref d ∧ H1 d = some (.frz o (.dT kvs)) ∧ R (Itdt d o kvs) H1
theorem pi_valuesT (he : PE X e td) (hbase : attributeBase e "values" X.env (eval e X.env) = eval e X.env := by rfl) (hline : (apos.endLine == cpos.line) = true := by rfl) : PI X tg (.Call (.Attribute e "values" apos) [] [] cpos) (iValsT td) := by
  refine ⟨fun pins s σ H R I h => ?_⟩
  refine wpAny_Call_method (T := "dict") (id := "dict.values") hbase rfl hline F.plainAttrs_dict F.slot_dict_values F.type_dict_values (thn (he.run pins s σ H _ I h) fun u s1 ⟨x, H1, I1, rx, d, o, kvs, ex, hd, q⟩ => ?_)
  subst ex
  obtain rfl : u = Value.ref d := rx
  obtain ⟨hs, es, ep, hdt, hm, hsz, ent⟩ := frzTV I1 hd
  have hnd : ∃ o, s1.heap.get? d = some o ∧ o.ExactDict := by
    obtain ⟨hd2, z, hs2, xs, pr, o', es', ep', ho, hx, _⟩ := I1.hok d _ hd
    exact ⟨o', ho, hx⟩
  obtain ⟨od, hod, hxd⟩ := hnd
  refine ⟨hm.typeIs, fun a ha => (by cases ha; exact ⟨od, hod, hxd.2.1⟩), ?_⟩
  have I2 : Inv X pins σ H1 { s1 with heap := s1.heap.push { cls := .type "dict_values", data := .fields #[.ref d] } } := I1.kept (t' := s1.toks) fun b ob q => Heap.get?_push_of_some _ q
  have fin : wpAny (model X.prog X.w) X.A (pyIter (.ref s1.heap.objs.size)) (PIE X pins σ tg R) X.xe { s1 with heap := s1.heap.push { cls := .type "dict_values", data := .fields #[.ref d] } } := by
    refine PySem.wpAny_pyIter_values_raw (d := d) (es := es) (ep := ep) ⟨_, Heap.get?_push_size _ rfl, rfl, rfl⟩ (hm.at fun _ e => Heap.get?_push_of_some _ e) (pi_one (tk := s1.toks) I2 _ (turn_valsT _ hdt hsz) ⟨_, Heap.get?_push_size _ rfl, rfl, ?_⟩ q)
    rfl
  show wpAny _ _ (callWith cpos (.builtin "dict.values") [.ref d] [] []) _ X.xe s1
  exact method_meetsIn F.slot_dict_values F.entry_dict_values rfl (PySem.evalArgs_none ⟨rfl, hm.typeIs, F.args_dict_values_1 _, _, PySem.meets_dict_values_raw d hs, ⟨es, ep, hm⟩, fin⟩)
theorem walk_valsT {kvs : List (List L2.Key × V)} {d : Addr} {o : Obj} : Walk (Itdt d o kvs) kvs.length (fun H => H d = some (.frz o (.dT kvs))) (fun i H x H' => H' = H ∧ ∃ k, kvs[i]? = some (k, x)) :=
  ⟨fun _ _ hi q => ⟨q, hi⟩, fun _ q => ⟨q, Nat.le_refl _⟩, fun _ _ _ _ _ _ y => y⟩
end
end Vf

namespace Vk76
open PySem PySem.Spec PyProof.Rows L2 Vf
def topS (i : Nat) : Stmt := PySem.Challenge.pw_folderkin_k76_whole_no_letter_from_nowhe.main.body.getD i (.Pass ⟨0, 0, 0, 0⟩)
abbrev s_wall : Stmt := topS 0
abbrev N_wall : List Str := ["k"]
theorem sc_wall : FnScope N_wall ["k"] (defScope s_wall) := ⟨rfl, rfl, rfl, by decide +kernel, rfl, by decide +kernel, by decide +kernel⟩
abbrev s_Lines___init__ : Stmt := inClass (topS 2) 0
abbrev N_Lines___init__ : List Str := ["self", "count", "source", "target"]
theorem sc_Lines___init__ : FnScope N_Lines___init__ ["self", "count"] (defScope s_Lines___init__) := ⟨rfl, rfl, rfl, by decide +kernel, rfl, by decide +kernel, by decide +kernel⟩
abbrev s_Lines_is_joined : Stmt := inClass (topS 2) 1
abbrev N_Lines_is_joined : List Str := ["self", "first", "second"]
theorem sc_Lines_is_joined : FnScope N_Lines_is_joined ["self", "first", "second"] (defScope s_Lines_is_joined) := ⟨rfl, rfl, rfl, by decide +kernel, rfl, by decide +kernel, by decide +kernel⟩
abbrev s_Lines_cut : Stmt := inClass (topS 2) 2
abbrev N_Lines_cut : List Str := ["self", "first", "second"]
theorem sc_Lines_cut : FnScope N_Lines_cut ["self", "first", "second"] (defScope s_Lines_cut) := ⟨rfl, rfl, rfl, by decide +kernel, rfl, by decide +kernel, by decide +kernel⟩
abbrev s_Lines_join : Stmt := inClass (topS 2) 3
abbrev N_Lines_join : List Str := ["self", "first", "second"]
theorem sc_Lines_join : FnScope N_Lines_join ["self", "first", "second"] (defScope s_Lines_join) := ⟨rfl, rfl, rfl, by decide +kernel, rfl, by decide +kernel, by decide +kernel⟩
abbrev s_Lines_send : Stmt := inClass (topS 2) 4
abbrev N_Lines_send : List Str := ["self", "source", "target", "data"]
theorem sc_Lines_send : FnScope N_Lines_send ["self", "source", "target", "data"] (defScope s_Lines_send) := ⟨rfl, rfl, rfl, by decide +kernel, rfl, by decide +kernel, by decide +kernel⟩
abbrev s_Lines_waiting : Stmt := inClass (topS 2) 5
abbrev N_Lines_waiting : List Str := ["self", "source", "target", "letter"]
theorem sc_Lines_waiting : FnScope N_Lines_waiting ["self", "source", "target"] (defScope s_Lines_waiting) := ⟨rfl, rfl, rfl, by decide +kernel, rfl, by decide +kernel, by decide +kernel⟩
abbrev s_Lines_take : Stmt := inClass (topS 2) 6
abbrev N_Lines_take : List Str := ["self", "source", "target", "index"]
theorem sc_Lines_take : FnScope N_Lines_take ["self", "source", "target", "index"] (defScope s_Lines_take) := ⟨rfl, rfl, rfl, by decide +kernel, rfl, by decide +kernel, by decide +kernel⟩
abbrev s_Lines_drop : Stmt := inClass (topS 2) 7
abbrev N_Lines_drop : List Str := ["self", "source", "target", "index"]
theorem sc_Lines_drop : FnScope N_Lines_drop ["self", "source", "target", "index"] (defScope s_Lines_drop) := ⟨rfl, rfl, rfl, by decide +kernel, rfl, by decide +kernel, by decide +kernel⟩
abbrev s_Lines_double : Stmt := inClass (topS 2) 8
abbrev N_Lines_double : List Str := ["self", "source", "target", "index", "queue"]
theorem sc_Lines_double : FnScope N_Lines_double ["self", "source", "target", "index"] (defScope s_Lines_double) := ⟨rfl, rfl, rfl, by decide +kernel, rfl, by decide +kernel, by decide +kernel⟩
abbrev s_Lines_swap : Stmt := inClass (topS 2) 9
abbrev N_Lines_swap : List Str := ["self", "source", "target", "index", "queue"]
theorem sc_Lines_swap : FnScope N_Lines_swap ["self", "source", "target", "index"] (defScope s_Lines_swap) := ⟨rfl, rfl, rfl, by decide +kernel, rfl, by decide +kernel, by decide +kernel⟩
abbrev s_Lines__waits : Stmt := inClass (topS 2) 10
abbrev N_Lines__waits : List Str := ["self", "source", "target", "index"]
theorem sc_Lines__waits : FnScope N_Lines__waits ["self", "source", "target", "index"] (defScope s_Lines__waits) := ⟨rfl, rfl, rfl, by decide +kernel, rfl, by decide +kernel, by decide +kernel⟩
abbrev s_Lines_total : Stmt := inClass (topS 2) 11
abbrev N_Lines_total : List Str := ["self", "word", "queue"]
theorem sc_Lines_total : FnScope N_Lines_total ["self", "word"] (defScope s_Lines_total) := ⟨rfl, rfl, rfl, by decide +kernel, rfl, by decide +kernel, by decide +kernel⟩
abbrev s_Lines_reached_from : Stmt := inClass (topS 2) 12
abbrev N_Lines_reached_from : List Str := ["self", "device"]
theorem sc_Lines_reached_from : FnScope N_Lines_reached_from ["self", "device"] (defScope s_Lines_reached_from) := ⟨rfl, rfl, rfl, by decide +kernel, rfl, by decide +kernel, by decide +kernel⟩
abbrev s_Lines_connected : Stmt := inClass (topS 2) 13
abbrev N_Lines_connected : List Str := ["self"]
theorem sc_Lines_connected : FnScope N_Lines_connected ["self"] (defScope s_Lines_connected) := ⟨rfl, rfl, rfl, by decide +kernel, rfl, by decide +kernel, by decide +kernel⟩
abbrev s_line : Stmt := topS 3
abbrev N_line : List Str := ["first", "second"]
theorem sc_line : FnScope N_line ["first", "second"] (defScope s_line) := ⟨rfl, rfl, rfl, by decide +kernel, rfl, by decide +kernel, by decide +kernel⟩
abbrev s_law_draw : Stmt := topS 5
abbrev N_law_draw : List Str := ["state", "script", "size", "at", "cell", "first", "digit"]
theorem sc_law_draw : FnScope N_law_draw ["state", "script", "size"] (defScope s_law_draw) := ⟨rfl, rfl, rfl, by decide +kernel, rfl, by decide +kernel, by decide +kernel⟩
abbrev s_law_balanced : Stmt := topS 6
abbrev N_law_balanced : List Str := ["lines", "made"]
theorem sc_law_balanced : FnScope N_law_balanced ["lines"] (defScope s_law_balanced) := ⟨rfl, rfl, rfl, by decide +kernel, rfl, by decide +kernel, by decide +kernel⟩
abbrev s_law_sent : Stmt := topS 7
abbrev N_law_sent : List Str := ["lines", "ledger", "source", "target", "number", "data"]
theorem sc_law_sent : FnScope N_law_sent ["lines", "ledger", "source", "target"] (defScope s_law_sent) := ⟨rfl, rfl, rfl, by decide +kernel, rfl, by decide +kernel, by decide +kernel⟩
abbrev s_law_number : Stmt := topS 8
abbrev N_law_number : List Str := ["data", "source"]
theorem sc_law_number : FnScope N_law_number ["data", "source"] (defScope s_law_number) := ⟨rfl, rfl, rfl, by decide +kernel, rfl, by decide +kernel, by decide +kernel⟩
abbrev s_law_counted : Stmt := topS 9
abbrev N_law_counted : List Str := ["lines", "ledger", "source", "target", "at", "word", "row", "number", "data", "done"]
theorem sc_law_counted : FnScope N_law_counted ["lines", "ledger", "source", "target", "at", "word"] (defScope s_law_counted) := ⟨rfl, rfl, rfl, by decide +kernel, rfl, by decide +kernel, by decide +kernel⟩
abbrev s_law_emptied : Stmt := topS 10
abbrev N_law_emptied : List Str := ["lines", "ledger", "state", "script", "count", "source", "target", "turn", "at"]
theorem sc_law_emptied : FnScope N_law_emptied ["lines", "ledger", "state", "script", "count"] (defScope s_law_emptied) := ⟨rfl, rfl, rfl, by decide +kernel, rfl, by decide +kernel, by decide +kernel⟩
abbrev s_law : Stmt := topS 11
abbrev N_law : List Str := ["script", "state", "count", "lines", "ledger", "turn", "source", "target", "kind", "at", "row"]
theorem sc_law : FnScope N_law ["script"] (defScope s_law) := ⟨rfl, rfl, rfl, by decide +kernel, rfl, by decide +kernel, by decide +kernel⟩
structure Txt (K : PySem.W.Frag) (mg : Str → Option Value) : Prop where
  f_int : mg "int" = none
  f_isinstance : mg "isinstance" = none
  f_len : mg "len" = none
  f_list : mg "list" = none
  f_max : mg "max" = none
  f_min : mg "min" = none
  f_range : mg "range" = none
  f_sum : mg "sum" = none
  cl_Lines : Cls K (He.ga K "Lines")
  g_Lines : mg "Lines" = some (.ref (He.ga K "Lines"))
  no_Lines__count : NoAttr K (He.ga K "Lines") "_count"
  no_Lines__cuts : NoAttr K (He.ga K "Lines") "_cuts"
  no_Lines__totals : NoAttr K (He.ga K "Lines") "_totals"
  no_Lines__queues : NoAttr K (He.ga K "Lines") "_queues"
theorem same_tup {K : PySem.W.Frag} {H H' : Hp} {a : Addr} {xs : List V} (e : Same H H') (h : SqT K H a xs) : SqT K H' a xs := by
  rcases h with (h | ⟨o, h⟩) | h
  · exact .inl (.inl (e _ _ h))
  · exact .inl (.inr ⟨o, e _ _ h⟩)
  · exact .inr h
theorem prd_get {α β : Type} {R : α → β → Prop} : ∀ {xs : List α} {ys : List β}, Paired R xs ys → ∀ (i : Nat), i < ys.length → ∃ x y, xs[i]? = some x ∧ ys[i]? = some y ∧ R x y
  | _, _, .nil, i, h => by simp at h
  | _, _, .cons a b, 0, h => ⟨_, _, rfl, rfl, a⟩
  | _, _, .cons a b, i + 1, h => by
    obtain ⟨x, y, h1, h2, h3⟩ := prd_get b i (by simpa using h)
    exact ⟨x, y, by simpa using h1, by simpa using h2, h3⟩
theorem prd_snoc {α β : Type} {R : α → β → Prop} : ∀ {xs : List α} {ys : List β} {x : α} {y : β}, Paired R xs ys → R x y → Paired R (xs ++ [x]) (ys ++ [y])
  | _, _, _, _, .nil, h => .cons h .nil
  | _, _, _, _, .cons a b, h => .cons a (prd_snoc b h)
theorem small {n m : Nat} (h : n ≤ m) (hm : m ≤ 1000000) : n < sizeLine := Nat.lt_of_le_of_lt (Nat.le_trans h hm) (by decide)
theorem prd_imp {α β : Type} {R S : α → β → Prop} (f : ∀ a b, R a b → S a b) : ∀ {xs : List α} {ys : List β}, Paired R xs ys → Paired S xs ys
  | _, _, .nil => .nil
  | _, _, .cons a b => .cons (f _ _ a) (prd_imp f b)
theorem for_prd {β : Type} {K : PySem.W.Frag} {g : TG} {t : TS} {D : Ends} {σ : L2.St} {H : Hp} {a : Addr} {as : List β} (RR : Hp → Addr → β → Prop) (Pv : List β → L2.St → Hp → Prop) (h0 : Pv [] σ H) (qs : List Addr) (hq : qs.length = as.length) (hl : ∀ pre σ H, Pv pre σ H → SqL K H a (qs.map V.ref) ∧ Paired (RR H) qs as)
    (hs : ∀ (pre : List β) (c : β) (post : List β) (T : Addr) σ H, as = pre ++ c :: post → Pv pre σ H → RR H T c → g (.ref T) σ H fun σ2 H2 => t { D with nx := Pv (pre ++ [c]), ct := Pv (pre ++ [c]), bk := D.nx } σ2 H2)
    (hd : ∀ σ H, Pv as σ H → D.nx σ H) : ForB (Itl K a) g t D σ H := by
  refine for_list (xs := qs.map V.ref) (fun i => Pv (as.take i)) (by simpa using h0) (fun i σ H _ p => (hl _ σ H p).1) (fun i x σ H hx p => ?_) (fun σ H p => ?_)
  · rw [List.getElem?_map] at hx
    obtain ⟨T, hT, rfl⟩ := Option.map_eq_some_iff.mp hx
    obtain ⟨T2, c, hT2, hc, q⟩ := prd_get (hl _ σ H p).2 i (by have := (List.getElem?_eq_some_iff.mp hT).1; omega)
    rw [hT] at hT2
    cases hT2
    have e2 := (List.getElem?_eq_some_iff.mp hc).2
    have e1 : as = as.take i ++ c :: as.drop (i + 1) := by rw [← e2, List.getElem_cons_drop, List.take_append_drop]
    rw [List.take_add_one, hc]
    exact hs _ c _ T σ H e1 p q
  · rw [List.length_map, hq, List.take_length] at p
    exact hd σ H p
theorem inV_ints (x : Int) (ys : List Int) : inV (.int x) (ys.map V.int) = decide (x ∈ ys) := by
  unfold inV
  refine Bool.eq_iff_iff.mpr ?_
  rw [List.any_eq_true, decide_eq_true_eq]
  constructor
  · rintro ⟨v, hv, e⟩
    obtain ⟨y, hy, rfl⟩ := List.mem_map.mp hv
    have e2 : y = x := by simpa [eqV] using e
    rw [← e2]; exact hy
  · intro h
    exact ⟨.int x, List.mem_map.mpr ⟨x, h, rfl⟩, by simp [eqV]⟩
theorem flat_ints (ys : List Int) : (ys.map V.int).all flatV = true := List.all_eq_true.mpr fun v hv => by
  obtain ⟨y, _, rfl⟩ := List.mem_map.mp hv
  rfl
/-- [x for x in xs if ..], a list of objects, which stay -/
theorem lc_prdF {β : Type} {K : PySem.W.Frag} {g : TG} {tt : TT} {te : TE} {vs : List Nat} {σ : L2.St} {Da a : Addr} {H0 : Hp} {Q : VK} (RR : Hp → Addr → β → Prop) (hm : ∀ H H' T c, Same H H' → RR H T c → RR H' T c) {qs : List Addr} {as : List β} (hS : SqL K H0 a (qs.map V.ref)) (hP : Paired (RR H0) qs as) (hD : H0 Da = none) (hn : as.length ≤ 1000000) (p : β → Bool)
    (hs : ∀ (c : β) (T : Addr) (H2 : Hp) (C : VK) (E : Hp → Prop), c ∈ as → RR H2 T c → Same H0 H2 → (p c = true → ∀ H3, Same H2 H3 → C (.ref T) H3) → (p c = false → ∀ H3, Same H2 H3 → E H3) →
      g (.ref T) (wipe σ vs) H2 fun σ2 H2 => wipe σ2 vs = wipe σ vs ∧ tt σ2 H2 fun b H3 => if b = true then te σ2 H3 C else E H3)
    (hd : ∀ (H : Hp) (qs' : List Addr), Same H0 H → H Da = some (.lst (qs'.map V.ref)) → Paired (RR H) qs' (as.filter p) → Q (.ref Da) H) : LcB (Itl K a) g tt te vs σ Da H0 Q := by
  have hlen : qs.length = as.length := by
    clear hs hd hS
    induction hP with
    | nil => rfl
    | cons _ _ ih => rw [List.length_cons, List.length_cons, ih (by simp at hn; omega)]
  refine lc_list (xs := qs.map V.ref) (fun i H2 => Same H0 H2 ∧ ∃ qs' : List Addr, H2 Da = some (.lst (qs'.map V.ref)) ∧ qs'.length ≤ i ∧ Paired (RR H0) qs' ((as.take i).filter p)) ⟨same_new hD, [], upd_same, Nat.le_refl _, .nil⟩ (fun i H2 _ q => q.1.seq hS) (fun i x H2 hx q => ?_) (fun H2 q => ?_)
  · obtain ⟨s4, qs', e4, l4, p4⟩ := q
    rw [List.getElem?_map] at hx
    obtain ⟨T, hT, rfl⟩ := Option.map_eq_some_iff.mp hx
    have hi := (List.getElem?_eq_some_iff.mp hT).1
    obtain ⟨T2, c, hT2, hc, r⟩ := prd_get hP i (by omega)
    rw [hT] at hT2
    cases hT2
    have et : as.take (i + 1) = as.take i ++ [c] := by rw [List.take_add_one, hc]; rfl
    refine hs c T H2 _ _ (List.mem_of_getElem? hc) (hm _ _ _ _ s4 r) s4 (fun hp H3 s5 => ?_) (fun hp H3 s5 => ?_)
    · refine ⟨_, s5 _ _ e4, small (by rw [List.length_map]; omega : _ ≤ 1000000) (Nat.le_refl _), Same.mut (s4.trans s5) hD, qs' ++ [T], by rw [upd_same, List.map_append]; rfl, by rw [List.length_append, List.length_singleton]; omega, ?_⟩
      rw [et, List.filter_append, List.filter_cons_of_pos hp]
      exact prd_snoc p4 r
    · refine ⟨s4.trans s5, qs', s5 _ _ e4, by omega, ?_⟩
      rw [et, List.filter_append, List.filter_cons_of_neg (by rw [hp]; exact Bool.false_ne_true), List.filter_nil, List.append_nil]
      exact p4
  · obtain ⟨s4, qs', e4, l4, p4⟩ := q
    rw [List.length_map, hlen, List.take_length] at p4
    exact hd H2 qs' s4 e4 (prd_imp (fun a b h => hm _ _ _ _ s4 h) p4)
theorem none_upd {H : Hp} {a b : Addr} {o : HO} (h : upd H a o b = none) : H b = none := by
  by_cases e : b = a
  · rw [e, upd_same] at h; cases h
  · rw [upd_ne e] at h; exact h
theorem same_none {H H' : Hp} {a : Addr} (s : Same H H') (h : H' a = none) : H a = none := by
  cases e : H a with
  | none => rfl
  | some o => rw [s _ _ e] at h; cases h
theorem prd_len {α β : Type} {R : α → β → Prop} : ∀ {xs : List α} {ys : List β}, Paired R xs ys → xs.length = ys.length
  | _, _, .nil => rfl
  | _, _, .cons a b => by rw [List.length_cons, List.length_cons, prd_len b]
theorem upd_self {H : Hp} {a : Addr} {o : HO} (h : H a = some o) : upd H a o = H := by
  funext b
  by_cases e : b = a
  · rw [e, upd_same, h]
  · rw [upd_ne e]
theorem e_tFld {K : PySem.W.Frag} {ta : TE} {f : Str} {σ : L2.St} {H : Hp} {Q : VK} (q : ta σ H fun x H1 => ∃ a C dx fs v, x = .ref a ∧ H1 a = some (.ins C dx fs) ∧ Cls K C ∧ NoAttr K C f ∧ fs.lookup f = some v ∧ Q v H1) : tFld K ta f σ H Q := q
theorem e_sFld {K : PySem.W.Frag} {ta tv : TE} {f : Str} {D : Ends} {σ : L2.St} {H : Hp} (q : tv σ H fun y H1 => ta σ H1 fun x H2 => ∃ a C dx fs, x = .ref a ∧ H2 a = some (.ins C dx fs) ∧ Cls K C ∧ NoAttr K C f ∧ fs.length < 1000 ∧ D.nx σ (upd H2 a (.ins C dx (putF f y fs)))) : sFld K ta tv f D σ H := q
theorem e_tMeth {C : Addr} {m : Str} {sp : Sp} {dvs : List V} {E : XK} {ta : TE} {t : TA} {σ : L2.St} {H : Hp} {Q : VK} (q : ta σ H fun x H1 => ∃ a dx fs, x = .ref a ∧ H1 a = some (.ins C dx fs) ∧ fs.lookup m = none ∧ t σ H1 fun vs H2 => sp (x :: (vs ++ dvs)) H2 Q E) : tMeth C m sp dvs E ta t σ H Q := q
theorem e_tRevT {K : PySem.W.Frag} {te : TE} {σ : L2.St} {H : Hp} {Q : VK} (q : te σ H fun x H1 => ∃ a u v, x = .ref a ∧ SqT K H1 a [u, v] ∧ ∀ p, H1 p = none → Q (.ref p) (upd H1 p (.tup [v, u]))) : tRevT K te σ H Q := q
theorem e_tDNotIn {ty td : TE} {σ : L2.St} {H : Hp} {Q : VK} (q : ty σ H fun y H1 => td σ H1 fun x H2 => ∃ a o, x = .ref a ∧ DGet H2 a y o ∧ Q (.bl (!o.isSome)) H2) : tDNotIn ty td σ H Q := q
theorem e_sDPut {td ty tv : TE} {D : Ends} {σ : L2.St} {H : Hp} (q : tv σ H fun v H1 => td σ H1 fun x H2 => ty σ H2 fun y H3 => ∃ a H4, x = .ref a ∧ DPut H3 a y v H4 ∧ D.nx σ H4) : sDPut td ty tv D σ H := q
theorem e_sDDelT {td ty : TE} {D : Ends} {σ : L2.St} {H : Hp} (q : td σ H fun x H1 => ty σ H1 fun y H2 => ∃ a kvs k b, x = .ref a ∧ H2 a = some (.dT kvs) ∧ y = .ref b ∧ H2 b = some (.tup (k.map kV)) ∧ (valV kvs k).isSome = true ∧ D.nx σ (upd H2 a (.dT (dropK kvs k)))) : sDDelT td ty D σ H := q
theorem e_tDNewT {σ : L2.St} {H : Hp} {Q : VK} (q : ∀ p, H p = none → Q (.ref p) (upd H p (.dT []))) : tDNewT σ H Q := q
theorem e_tDisp {trs : List (TE × TE)} {σ : L2.St} {H : Hp} {Q : VK} (q : ∀ p, H p = none → tPairs trs σ (upd H p (.dK [])) fun ps H2 => H2 p = some (.dK []) ∧ ∃ kvs : List (Key × V), ps = kvs.map (fun kv => (kV kv.1, kv.2)) ∧ kvs.length ≤ 15 ∧ Q (.ref p) (upd H2 p (.dK (mergeK [] kvs)))) : tDisp trs σ H Q := q
theorem e_pairs1 {tk tv : TE} {r : List (TE × TE)} {σ : L2.St} {H : Hp} {Q : List (V × V) → Hp → Prop} (q : tk σ H fun x H1 => tv σ H1 fun y H2 => tPairs r σ H2 fun ps H3 => Q ((x, y) :: ps) H3) : tPairs ((tk, tv) :: r) σ H Q := q
theorem e_pairs0 {σ : L2.St} {H : Hp} {Q : List (V × V) → Hp → Prop} (q : Q [] H) : tPairs [] σ H Q := q
theorem e_tWhile {tc : TT} {tb : TS} {D : Ends} {σ : L2.St} {H : Hp} (q : ∃ W : Nat → L2.St → Hp → Prop, (∃ m, W m σ H) ∧ ∀ m σ H, W m σ H → tc σ H fun b H1 => if b = true then ∃ N : L2.St → Hp → Prop, (∀ σ' H', N σ' H' → ∃ m', m' < m ∧ W m' σ' H') ∧ tb { D with nx := N, ct := N, bk := D.nx } σ H1 else D.nx σ H1) : tWhile tc tb D σ H := q
theorem e_inL {K : PySem.W.Frag} {H : Hp} {Q : VK} {p : Addr} {x : Int} {ys : List Int} (h : SqL K H p (ys.map V.int)) (q : Q (.bl (decide (x ∈ ys))) H) : rIn K false (.int x) (.ref p) H Q :=
  ⟨p, _, rfl, .inl h, rfl, flat_ints _, by rw [if_neg Bool.false_ne_true, inV_ints]; exact q⟩
theorem e_ninL {K : PySem.W.Frag} {H : Hp} {Q : VK} {p : Addr} {x : Int} {ys : List Int} (h : SqL K H p (ys.map V.int)) (q : Q (.bl (!decide (x ∈ ys))) H) : rIn K true (.int x) (.ref p) H Q :=
  ⟨p, _, rfl, .inl h, rfl, flat_ints _, by rw [if_pos rfl, inV_ints]; exact q⟩
theorem valV_drop {κ : Type} [DecidableEq κ] (k j : κ) : ∀ kvs : List (κ × V), valV (dropK kvs k) j = if j = k then none else valV kvs j
  | [] => by
    show (none : Option V) = if j = k then none else none
    split <;> rfl
  | p :: r => by
    have ih := valV_drop k j r
    by_cases e : p.1 = k
    · have z : dropK (p :: r) k = dropK r k := List.filter_cons_of_neg (by simp [e])
      rw [z, ih]
      by_cases h : j = k
      · rw [if_pos h, if_pos h]
      · rw [if_neg h, if_neg h, valV_neg (fun q => h (q.symm.trans e))]
    · have z : dropK (p :: r) k = p :: dropK r k := List.filter_cons_of_pos (by simp [e])
      rw [z]
      by_cases h : p.1 = j
      · rw [valV_pos h, valV_pos h, if_neg (fun q => e (h.trans q))]
      · rw [valV_neg h, valV_neg h, ih]
abbrev cLin (K : PySem.W.Frag) : Addr := He.ga K "Lines"
abbrev Cuts := List (List Key × V)
def mn (p q : Int) : Int := if q < p then q else p
def mx (p q : Int) : Int := if q > p then q else p
def keyL (p q : Int) : List Key := [.inl (mn p q), .inl (mx p q)]
def cutB (kvs : Cuts) (p q : Int) : Bool := (valV kvs (keyL p q)).isSome
theorem keyL_lt {p q : Int} (h : p < q) : keyL p q = [.inl p, .inl q] := by
  unfold keyL mn mx
  rw [if_neg (by omega), if_pos (by omega)]
theorem keyL_gt {p q : Int} (h : p < q) : keyL q p = [.inl p, .inl q] := by
  unfold keyL mn mx
  rw [if_pos (by omega), if_neg (by omega)]
def Ln (K : PySem.W.Frag) (H : Hp) (a : Addr) (n : Int) (c : Addr) (kvs : Cuts) : Prop := ∃ (dx : Addr) (fs : List (Str × V)), H a = some (.ins (cLin K) dx fs) ∧ fs.lookup ("_count" : Str) = some (.int n) ∧ fs.lookup ("_cuts" : Str) = some (.ref c) ∧
  (∀ m : Str, m ∉ (["_count", "_cuts", "_totals", "_queues"] : List Str) → fs.lookup m = none) ∧ H c = some (.dT kvs)
section
variable {K : PySem.W.Frag} {H H' : Hp} {a c : Addr} {n : Int} {kvs kvs' : Cuts}
theorem Ln.same (h : Ln K H a n c kvs) (e : Same H H') : Ln K H' a n c kvs := by
  obtain ⟨dx, fs, h1, h2, h3, h4, h5⟩ := h
  exact ⟨dx, fs, e _ _ h1, h2, h3, h4, e _ _ h5⟩
theorem Ln.kp {st sc : Addr} {ns : List Int} (d : Dr K st sc ns H) (h : Ln K H a n c kvs) (e : Kp st H H') : Ln K H' a n c kvs := by
  obtain ⟨x, y, _, _, es⟩ := d.s
  obtain ⟨dx, fs, h1, h2, h3, h4, h5⟩ := h
  exact ⟨dx, fs, e _ _ (fun z => by rw [z, es] at h1; cases h1) h1, h2, h3, h4, e _ _ (fun z => by rw [z, es] at h5; cases h5) h5⟩
theorem Ln.dict (h : Ln K H a n c kvs) : H c = some (.dT kvs) := by
  obtain ⟨dx, fs, h1, h2, h3, h4, h5⟩ := h
  exact h5
theorem Ln.put (h : Ln K H a n c kvs) : Ln K (upd H c (.dT kvs')) a n c kvs' := by
  obtain ⟨dx, fs, h1, h2, h3, h4, h5⟩ := h
  exact ⟨dx, fs, by rw [upd_ne (fun z => by rw [z, h5] at h1; cases h1)]; exact h1, h2, h3, h4, upd_same⟩
theorem fld_cuts (c1 : Cls K (cLin K)) (c2 : NoAttr K (cLin K) "_cuts") (h : Ln K H a n c kvs) {R : V → Prop} (q : R (.ref c)) : ∃ a' C dx fs v, V.ref a = .ref a' ∧ H a' = some (.ins C dx fs) ∧ Cls K C ∧ NoAttr K C "_cuts" ∧ fs.lookup ("_cuts" : Str) = some v ∧ R v := by
  obtain ⟨dx, fs, h1, h2, h3, h4, h5⟩ := h
  exact ⟨a, _, dx, fs, _, rfl, h1, c1, c2, h3, q⟩
theorem fld_count (c1 : Cls K (cLin K)) (c2 : NoAttr K (cLin K) "_count") (h : Ln K H a n c kvs) {R : V → Prop} (q : R (.int n)) : ∃ a' C dx fs v, V.ref a = .ref a' ∧ H a' = some (.ins C dx fs) ∧ Cls K C ∧ NoAttr K C "_count" ∧ fs.lookup ("_count" : Str) = some v ∧ R v := by
  obtain ⟨dx, fs, h1, h2, h3, h4, h5⟩ := h
  exact ⟨a, _, dx, fs, _, rfl, h1, c1, c2, h2, q⟩
theorem met_ln {m : Str} (hm : m ∉ (["_count", "_cuts", "_totals", "_queues"] : List Str)) (h : Ln K H a n c kvs) {G : Prop} (q : G) : ∃ a' dx fs, V.ref a = .ref a' ∧ H a' = some (.ins (cLin K) dx fs) ∧ fs.lookup m = none ∧ G := by
  obtain ⟨dx, fs, h1, h2, h3, h4, h5⟩ := h
  exact ⟨a, dx, fs, rfl, h1, h4 m hm, q⟩
end
/-! what is reached -/
inductive Rch (J : Int → Int → Bool) (n d : Int) : Int → Prop where
  | base : Rch J n d d
  | step {k o : Int} : Rch J n d k → 1 ≤ o → o ≤ n → J k o = true → Rch J n d o
section
variable {J J' : Int → Int → Bool} {n d k o : Int}
theorem Rch.rg (h1 : 1 ≤ d) (h2 : d ≤ n) (h : Rch J n d k) : 1 ≤ k ∧ k ≤ n := by
  cases h with
  | base => exact ⟨h1, h2⟩
  | step _ a b _ => exact ⟨a, b⟩
theorem Rch.trans (h : Rch J n d k) (g : Rch J n k o) : Rch J n d o := by
  induction g with
  | base => exact h
  | step _ a b c ih => exact ih.step a b c
theorem Rch.symm (sy : ∀ x y, J x y = J y x) (h1 : 1 ≤ d) (h2 : d ≤ n) (h : Rch J n d k) : Rch J n k d := by
  induction h with
  | base => exact .base
  | @step x y g a b c ih =>
    have q := Rch.rg h1 h2 g
    have st : Rch J n y x := Rch.step .base q.1 q.2 (by rw [sy]; exact c)
    exact st.trans ih
theorem Rch.imp (h1 : 1 ≤ d) (h2 : d ≤ n) (e : ∀ x y, 1 ≤ x → x ≤ n → 1 ≤ y → y ≤ n → x ≠ y → J x y = true → J' x y = true) (h : Rch J n d k) : Rch J' n d k := by
  induction h with
  | base => exact .base
  | @step x y g a b c ih =>
    have q := Rch.rg h1 h2 g
    by_cases z : x = y
    · rw [← z]; exact ih
    · exact ih.step a b (e x y q.1 q.2 a b z c)
end
theorem pig : ∀ (n : Nat) (l : List Int), l.Nodup → (∀ k ∈ l, 1 ≤ k ∧ k ≤ n) → l.length ≤ n
  | 0, l, _, h => by
    cases l with
    | nil => exact Nat.le_refl _
    | cons x r => have := h x (by simp); omega
  | n + 1, l, nd, h => by
    have ih := pig n (l.erase ((n : Int) + 1)) (nd.erase _) fun k hk => by
      have := (List.Nodup.mem_erase_iff nd).mp hk
      have := h k this.2
      omega
    by_cases m : ((n : Int) + 1) ∈ l
    · rw [List.length_erase_of_mem m] at ih; omega
    · rw [List.erase_of_not_mem m] at ih; omega
theorem fill : ∀ (n : Nat) (l : List Int), (∀ k : Int, 1 ≤ k → k ≤ n → k ∈ l) → n ≤ l.length
  | 0, _, _ => Nat.zero_le _
  | n + 1, l, h => by
    have m : ((n : Int) + 1) ∈ l := h _ (by omega) (by omega)
    have ih := fill n (l.erase ((n : Int) + 1)) fun k h1 h2 => (List.mem_erase_of_ne (by omega)).mpr (h k h1 (by omega))
    rw [List.length_erase_of_mem m] at ih
    have := List.length_pos_of_mem m
    omega
theorem asc_nodup {l : List Int} (h : l.Pairwise (· < ·)) : l.Nodup := h.imp fun q z => by omega
theorem asc_of {l : List Int} (h : l.Pairwise (· ≤ ·)) (nd : l.Nodup) : l.Pairwise (· < ·) := by
  have := h.and nd
  exact this.imp fun q => by omega
theorem asc_eq : ∀ {l m : List Int}, l.Pairwise (· < ·) → m.Pairwise (· < ·) → (∀ k, k ∈ l ↔ k ∈ m) → l = m
  | [], [], _, _, _ => rfl
  | [], y :: m, _, _, h => by have := (h y).mpr (by simp); simp at this
  | x :: l, [], _, _, h => by have := (h x).mp (by simp); simp at this
  | x :: l, y :: m, hl, hm, h => by
    rw [List.pairwise_cons] at hl hm
    have e : x = y := by
      rcases List.mem_cons.mp ((h x).mp (by simp)) with e | e
      · exact e
      · rcases List.mem_cons.mp ((h y).mpr (by simp)) with e2 | e2
        · exact e2.symm
        · have := hm.1 x e
          have := hl.1 y e2
          omega
    subst e
    rw [asc_eq hl.2 hm.2 fun k => ?_]
    constructor
    · intro hk
      rcases List.mem_cons.mp ((h k).mp (List.mem_cons_of_mem _ hk)) with e | e
      · have := hl.1 k hk; omega
      · exact e
    · intro hk
      rcases List.mem_cons.mp ((h k).mpr (List.mem_cons_of_mem _ hk)) with e | e
      · have := hm.1 k hk; omega
      · exact e
theorem full_iff {n : Int} {ns : List Int} (h0 : 0 ≤ n) (h : ns.Pairwise (· < ·)) (rg : ∀ k ∈ ns, 1 ≤ k ∧ k ≤ n) : ((ns.length : Nat) : Int) = n ↔ ∀ k, 1 ≤ k → k ≤ n → k ∈ ns := by
  have e : ((n.toNat : Nat) : Int) = n := by omega
  constructor
  · intro hl k h1 h2
    refine Classical.byContradiction fun hk => ?_
    have := pig n.toNat (k :: ns) (List.nodup_cons.mpr ⟨hk, asc_nodup h⟩) fun j hj => by
      rcases List.mem_cons.mp hj with z | z
      · rw [z]; omega
      · have := rg j z; omega
    rw [List.length_cons] at this
    omega
  · intro g
    have a := pig n.toNat ns (asc_nodup h) fun j hj => by have := rg j hj; omega
    have b := fill n.toNat ns fun k h1 h2 => g k h1 (by omega)
    omega
structure Bfs (J : Int → Int → Bool) (n d : Int) (R : List Int) (i : Nat) : Prop where
  nd : R.Nodup
  rg : ∀ k ∈ R, 1 ≤ k ∧ k ≤ n
  me : d ∈ R
  rc : ∀ k ∈ R, Rch J n d k
  le : i ≤ R.length
  cl : ∀ j, j < i → ∀ k, R[j]? = some k → ∀ o, 1 ≤ o → o ≤ n → J k o = true → o ∈ R
section
variable {J : Int → Int → Bool} {n d k o : Int} {R : List Int} {i : Nat}
theorem Bfs.start (h1 : 1 ≤ d) (h2 : d ≤ n) : Bfs J n d [d] 0 :=
  ⟨by simp, fun k hk => by rw [List.mem_singleton.mp hk]; exact ⟨h1, h2⟩, by simp, fun k hk => by rw [List.mem_singleton.mp hk]; exact .base, Nat.zero_le _, fun j hj => by omega⟩
theorem Bfs.len (h : Bfs J n d R i) : R.length ≤ n.toNat := pig n.toNat R h.nd fun k hk => by have := h.rg k hk; omega
theorem Bfs.len9 (h : Bfs J n d R i) (hn : n ≤ 9) : R.length ≤ 9 := by have := h.len; omega
theorem Bfs.add (h : Bfs J n d R i) (hk : k ∈ R) (ho : o ∉ R) (h1 : 1 ≤ o) (h2 : o ≤ n) (hj : J k o = true) : Bfs J n d (R ++ [o]) i where
  nd := by
    rw [List.nodup_append]
    exact ⟨h.nd, by simp, fun a ha b hb => by rw [List.mem_singleton.mp hb]; exact fun z => ho (z ▸ ha)⟩
  rg x hx := by
    rcases List.mem_append.mp hx with hx | hx
    · exact h.rg x hx
    · rw [List.mem_singleton.mp hx]; exact ⟨h1, h2⟩
  me := List.mem_append.mpr (.inl h.me)
  rc x hx := by
    rcases List.mem_append.mp hx with hx | hx
    · exact h.rc x hx
    · rw [List.mem_singleton.mp hx]; exact (h.rc k hk).step h1 h2 hj
  le := by rw [List.length_append]; have := h.le; omega
  cl j hji x hx y a b c := by
    have := h.le
    rw [List.getElem?_append_left (by omega)] at hx
    exact List.mem_append.mpr (.inl (h.cl j hji x hx y a b c))
theorem Bfs.step (h : Bfs J n d R i) (hk : R[i]? = some k) (g : ∀ o, 1 ≤ o → o ≤ n → J k o = true → o ∈ R) : Bfs J n d R (i + 1) where
  nd := h.nd
  rg := h.rg
  me := h.me
  rc := h.rc
  le := (List.getElem?_eq_some_iff.mp hk).1
  cl j hji x hx := by
    by_cases e : j = i
    · rw [e, hk] at hx
      cases hx
      exact g
    · exact h.cl j (by omega) x hx
theorem Bfs.all (h : Bfs J n d R i) (hi : i = R.length) (k : Int) : k ∈ R ↔ Rch J n d k := by
  constructor
  · exact h.rc k
  · intro g
    induction g with
    | base => exact h.me
    | @step x y g a b c ih =>
      obtain ⟨j, hj, e⟩ := List.mem_iff_getElem.mp ih
      exact h.cl j (by omega) x (by rw [List.getElem?_eq_getElem hj, e]) y a b c
end
/-! pairs that are joined -/
def Pr (H : Hp) (q : Addr) (c : Int × Int) : Prop := H q = some (.tup [.int c.1, .int c.2])
def InP (n : Int) (c : Int × Int) : Prop := 1 ≤ c.1 ∧ c.1 < c.2 ∧ c.2 ≤ n
def Jp (prs : List (Int × Int)) (x y : Int) : Bool := decide ((x, y) ∈ prs) || decide ((y, x) ∈ prs)
theorem Jp_iff {prs : List (Int × Int)} {x y : Int} : Jp prs x y = true ↔ (x, y) ∈ prs ∨ (y, x) ∈ prs := by
  unfold Jp
  rw [Bool.or_eq_true, decide_eq_true_eq, decide_eq_true_eq]
theorem Jp_sym (prs : List (Int × Int)) (x y : Int) : Jp prs x y = Jp prs y x := by unfold Jp; rw [Bool.or_comm]
/-- the lines that are not cut are those of the pairs -/
def Agr (n : Int) (kvs : Cuts) (prs : List (Int × Int)) : Prop := (∀ c ∈ prs, InP n c) ∧ ∀ x y, 1 ≤ x → x < y → y ≤ n → ((valV kvs [.inl x, .inl y]).isSome = false ↔ (x, y) ∈ prs)
theorem Agr.iff {n : Int} {kvs : Cuts} {prs : List (Int × Int)} (h : Agr n kvs prs) {x y : Int} (x1 : 1 ≤ x) (x2 : x ≤ n) (y1 : 1 ≤ y) (y2 : y ≤ n) (ne : x ≠ y) : (!cutB kvs x y) = Jp prs x y := by
  refine Bool.eq_iff_iff.mpr ?_
  rw [Jp_iff, Bool.not_eq_true']
  unfold cutB
  by_cases e : x < y
  · rw [keyL_lt e, h.2 x y x1 e y2]
    constructor
    · exact .inl
    · rintro (q | q)
      · exact q
      · have := (h.1 _ q).2.1
        simp only at this
        omega
  · have e2 : y < x := by omega
    rw [keyL_gt e2, h.2 y x y1 e2 x2]
    constructor
    · exact .inr
    · rintro (q | q)
      · have := (h.1 _ q).2.1
        simp only at this
        omega
      · exact q
theorem Agr.rch {n d k : Int} {kvs : Cuts} {prs : List (Int × Int)} (h : Agr n kvs prs) (d1 : 1 ≤ d) (d2 : d ≤ n) : Rch (fun x y => !cutB kvs x y) n d k ↔ Rch (Jp prs) n d k :=
  ⟨fun g => g.imp d1 d2 fun x y a b c e ne q => by rw [← h.iff a b c e ne]; exact q, fun g => g.imp d1 d2 fun x y a b c e ne q => by show (!cutB kvs x y) = true; rw [h.iff a b c e ne]; exact q⟩
/-- from one device all are reached exactly if they are from another one -/
theorem all_rch {n d e : Int} {prs : List (Int × Int)} (d1 : 1 ≤ d) (d2 : d ≤ n) (e1 : 1 ≤ e) (e2 : e ≤ n) (h : ∀ k, 1 ≤ k → k ≤ n → Rch (Jp prs) n d k) : ∀ k, 1 ≤ k → k ≤ n → Rch (Jp prs) n e k :=
  fun k k1 k2 => (Rch.symm (Jp_sym prs) d1 d2 (h e e1 e2)).trans (h k k1 k2)
/-! marks of one turn -/
def Clo (prs : List (Int × Int)) (M : List Int) : Prop := ∀ c ∈ prs, (c.1 ∈ M ↔ c.2 ∈ M)
structure Mrk (prs : List (Int × Int)) (n d : Int) (M : List Int) : Prop where
  nd : M.Nodup
  rg : ∀ k ∈ M, 1 ≤ k ∧ k ≤ n
  me : d ∈ M
  rc : ∀ k ∈ M, Rch (Jp prs) n d k
section
variable {prs pre : List (Int × Int)} {n d x y : Int} {M M0 : List Int}
theorem Mrk.start (h1 : 1 ≤ d) (h2 : d ≤ n) : Mrk prs n d [d] :=
  ⟨by simp, fun k hk => by rw [List.mem_singleton.mp hk]; exact ⟨h1, h2⟩, by simp, fun k hk => by rw [List.mem_singleton.mp hk]; exact .base⟩
theorem Mrk.len (h : Mrk prs n d M) : M.length ≤ n.toNat := pig n.toNat M h.nd fun k hk => by have := h.rg k hk; omega
theorem Mrk.add (h : Mrk prs n d M) (hx : x ∈ M) (hy : y ∉ M) (h1 : 1 ≤ y) (h2 : y ≤ n) (hj : Jp prs x y = true) : Mrk prs n d (M ++ [y]) where
  nd := by
    rw [List.nodup_append]
    exact ⟨h.nd, by simp, fun a ha b hb => by rw [List.mem_singleton.mp hb]; exact fun z => hy (z ▸ ha)⟩
  rg z hz := by
    rcases List.mem_append.mp hz with hz | hz
    · exact h.rg z hz
    · rw [List.mem_singleton.mp hz]; exact ⟨h1, h2⟩
  me := List.mem_append.mpr (.inl h.me)
  rc z hz := by
    rcases List.mem_append.mp hz with hz | hz
    · exact h.rc z hz
    · rw [List.mem_singleton.mp hz]; exact (h.rc x hx).step h1 h2 hj
theorem Mrk.all (h : Mrk prs n d M) (hc : Clo prs M) (k : Int) : k ∈ M ↔ Rch (Jp prs) n d k := by
  constructor
  · exact h.rc k
  · intro g
    induction g with
    | base => exact h.me
    | @step x y g a b c ih =>
      rcases Jp_iff.mp c with q | q
      · exact (hc _ q).mp ih
      · exact (hc _ q).mpr ih
/-- amid a turn that began with M0, behind the pairs pre; half: the first half of the pair c is done -/
structure Amid (prs pre : List (Int × Int)) (M0 M : List Int) : Prop where
  le : M0.length ≤ M.length
  eq : M.length = M0.length → M = M0 ∧ Clo pre M0
  st : Clo prs M0 → M = M0
theorem Amid.start : Amid prs [] M0 M0 := ⟨Nat.le_refl _, fun _ => ⟨rfl, fun c hc => by cases hc⟩, fun _ => rfl⟩
theorem Amid.grow (h : Amid prs pre M0 M) (hx : x ∈ M) (hy : y ∉ M) (hj : Jp prs x y = true) {pre' : List (Int × Int)} : Amid prs pre' M0 (M ++ [y]) := by
  refine ⟨?_, ?_, fun hc => ?_⟩
  · rw [List.length_append]; have := h.le; omega
  · rw [List.length_append, List.length_singleton]; have := h.le; intro z; omega
  · have e := h.st hc
    subst e
    rcases Jp_iff.mp hj with q | q
    · exact absurd ((hc _ q).mp hx) hy
    · exact absurd ((hc _ q).mpr hx) hy
theorem Amid.next (h : Amid prs pre M0 M) {c : Int × Int} (hc : c.1 ∈ M ↔ c.2 ∈ M) : Amid prs (pre ++ [c]) M0 M := by
  refine ⟨h.le, fun e => ?_, h.st⟩
  obtain ⟨e1, e2⟩ := h.eq e
  subst e1
  refine ⟨rfl, fun z hz => ?_⟩
  rcases List.mem_append.mp hz with hz | hz
  · exact e2 z hz
  · rw [List.mem_singleton.mp hz]; exact hc
theorem Amid.turn (h : Amid prs prs M0 M) {t : Nat} (q : Clo prs M0 ∨ t + 1 ≤ M0.length) : Clo prs M ∨ t + 1 + 1 ≤ M.length := by
  rcases q with q | q
  · rw [h.st q]; exact .inl q
  · by_cases e : M.length = M0.length
    · obtain ⟨e1, e2⟩ := h.eq e
      rw [e1]; exact .inl e2
    · have := h.le
      exact .inr (by omega)
end
/-! ### what stands but at some places -/
def Fr (S : List Addr) (H H' : Hp) : Prop := ∀ x o, x ∉ S → H x = some o → H' x = some o
theorem Fr.of {S : List Addr} {H H' : Hp} (h : Same H H') : Fr S H H' := fun x o _ e => h x o e
theorem Fr.refl (S : List Addr) (H : Hp) : Fr S H H := fun _ _ _ e => e
theorem Fr.trans {S : List Addr} {H H1 H2 : Hp} (h : Fr S H H1) (g : Fr S H1 H2) : Fr S H H2 := fun x o n e => g x o n (h x o n e)
theorem Fr.same {S : List Addr} {H H1 H2 : Hp} (h : Fr S H H1) (g : Same H1 H2) : Fr S H H2 := fun x o n e => g x o (h x o n e)
theorem Fr.put {S : List Addr} {H H1 : Hp} {a : Addr} {o : HO} (h : Fr S H H1) (m : a ∈ S) : Fr S H (upd H1 a o) := fun x o' n e => by
  rw [upd_ne fun z => n (by rw [z]; exact m)]
  exact h x o' n e
theorem Fr.mono {S S' : List Addr} {H H1 : Hp} (h : Fr S H H1) (m : ∀ x ∈ S, x ∈ S') : Fr S' H H1 := fun x o n e => h x o (fun z => n (m x z)) e
theorem Fr.mut {S : List Addr} {H H1 : Hp} {a : Addr} {o : HO} (h : Fr S H H1) (m : H a = none) : Fr S H (upd H1 a o) := fun x o' n e => by
  rw [upd_ne (ne_of_none e m)]
  exact h x o' n e
abbrev Pq := Int × Int
abbrev Lts := List (List Int)
/-- letters, none of which stands at a place of M -/
abbrev Ltr (M : Addr → Prop) (H : Hp) (ps : List Addr) (cs : Lts) : Prop := Paired (fun p (c : List Int) => ¬ M p ∧ H p = some (.lst (c.map V.int))) ps cs
def Lol (M : Addr → Prop) (H : Hp) (d : Addr) (cs : Lts) : Prop := ∃ ps : List Addr, H d = some (.lst (ps.map V.ref)) ∧ Ltr M H ps cs
/-- only lists of M, and what is no list, change -/
def Sep (M : Addr → Prop) (S : List Addr) (H : Hp) : Prop := ∀ x ∈ S, M x ∨ ∀ l, H x ≠ some (.lst l)
theorem Ltr.fr {M : Addr → Prop} {H H' : Hp} {ps : List Addr} {cs : Lts} {S : List Addr} (h : Ltr M H ps cs) (f : Fr S H H') (s : Sep M S H) : Ltr M H' ps cs :=
  prd_imp (fun p c q => ⟨q.1, f p _ (fun m => by
    rcases s p m with z | z
    · exact q.1 z
    · exact z _ q.2) q.2⟩) h
theorem Lol.fr {M : Addr → Prop} {H H' : Hp} {d : Addr} {cs : Lts} {S : List Addr} (h : Lol M H d cs) (f : Fr S H H') (n : d ∉ S) (s : Sep M S H) : Lol M H' d cs := by
  obtain ⟨ps, h1, h2⟩ := h
  exact ⟨ps, f d _ n h1, Ltr.fr h2 f s⟩
theorem Lol.same {M : Addr → Prop} {H H' : Hp} {d : Addr} {cs : Lts} (h : Lol M H d cs) (f : Same H H') : Lol M H' d cs :=
  h.fr (S := []) (Fr.of f) (by simp) (fun x hx => by cases hx)
theorem Lol.imp {M M' : Addr → Prop} {H : Hp} {d : Addr} {cs : Lts} (h : Lol M H d cs) (f : ∀ p, H p ≠ none → M' p → M p) : Lol M' H d cs := by
  obtain ⟨ps, h1, h2⟩ := h
  exact ⟨ps, h1, prd_imp (fun p c q => ⟨fun m => q.1 (f p (by rw [q.2]; intro z; cases z) m), q.2⟩) h2⟩
theorem Lol.lst {M : Addr → Prop} {H : Hp} {d : Addr} {cs : Lts} (h : Lol M H d cs) : ∃ ps : List Addr, H d = some (.lst (ps.map V.ref)) ∧ ps.length = cs.length := by
  obtain ⟨ps, h1, h2⟩ := h
  exact ⟨ps, h1, prd_len h2⟩
abbrev Tot := Int × Int × Int × Int
def totV (x : Tot) : List (Key × V) := [(.inr "sent", .int x.1), (.inr "taken", .int x.2.1), (.inr "doubled", .int x.2.2.1), (.inr "lost", .int x.2.2.2)]
section
variable (x : Tot) (v : Int)
theorem tot_sent : valV (totV x) (.inr "sent") = some (.int x.1) := rfl
theorem tot_taken : valV (totV x) (.inr "taken") = some (.int x.2.1) := rfl
theorem tot_doubled : valV (totV x) (.inr "doubled") = some (.int x.2.2.1) := rfl
theorem tot_lost : valV (totV x) (.inr "lost") = some (.int x.2.2.2) := rfl
theorem tot_len : (totV x).length < sizeLine := small (Nat.le_refl 4) (by decide)
theorem put_sent : putK (totV x) (.inr "sent") (.int v) = totV (v, x.2.1, x.2.2.1, x.2.2.2) := rfl
theorem put_taken : putK (totV x) (.inr "taken") (.int v) = totV (x.1, v, x.2.2.1, x.2.2.2) := rfl
theorem put_doubled : putK (totV x) (.inr "doubled") (.int v) = totV (x.1, x.2.1, v, x.2.2.2) := rfl
theorem put_lost : putK (totV x) (.inr "lost") (.int v) = totV (x.1, x.2.1, x.2.2.1, v) := rfl
end
abbrev ky (p : Pq) : List Key := [.inl p.1, .inl p.2]
def rows (ps : List Pq) (dq : Pq → Addr) : List (List Key × V) := ps.map fun p => (ky p, .ref (dq p))
theorem ky_inj {p q : Pq} (h : ky p = ky q) : p = q := by
  injection h with h1 h2
  injection h2 with h2
  injection h1 with h1
  injection h2 with h2
  exact Prod.ext h1 h2
theorem rows_get {ps : List Pq} {dq : Pq → Addr} : ∀ {p : Pq}, p ∈ ps → valV (rows ps dq) (ky p) = some (.ref (dq p)) := by
  induction ps with
  | nil => intro p h; cases h
  | cons x r ih =>
    intro p h
    by_cases e : x = p
    · subst e
      exact valV_pos (p := (ky x, .ref (dq x))) rfl
    · rw [show rows (x :: r) dq = (ky x, .ref (dq x)) :: rows r dq from rfl, valV_neg fun z => e (ky_inj z)]
      rcases List.mem_cons.mp h with h | h
      · exact absurd h.symm e
      · exact ih h
theorem rows_no {ps : List Pq} {dq : Pq → Addr} {p : Pq} (h : p ∉ ps) : valV (rows ps dq) (ky p) = none := by
  induction ps with
  | nil => rfl
  | cons x r ih =>
    rw [show rows (x :: r) dq = (ky x, .ref (dq x)) :: rows r dq from rfl, valV_neg fun z => h (by rw [← ky_inj z]; simp)]
    exact ih fun z => h (List.mem_cons_of_mem _ z)
theorem rows_snoc {ps : List Pq} {dq : Pq → Addr} {p : Pq} {l : Addr} (h : p ∉ ps) : putK (rows ps dq) (ky p) (.ref l) = rows (ps ++ [p]) fun x => if x = p then l else dq x := by
  rw [putK_new _ (rows_no h)]
  unfold rows
  rw [List.map_append, List.map_cons, List.map_nil]
  dsimp only
  rw [if_pos rfl]
  congr 1
  refine List.map_congr_left fun x hx => ?_
  rw [if_neg fun z => h (by rw [← z]; exact hx)]
/-- the pairs of different devices, in order -/
def rowP (n i j : Nat) : List Pq := ((List.range j).filter fun k => !decide (k = i)).map fun (k : Nat) => ((i : Int) + 1, (k : Int) + 1)
def preP (n i : Nat) : List Pq := (List.range i).flatMap fun i => rowP n i n
theorem rowP_succ (n i j : Nat) : rowP n i (j + 1) = if j = i then rowP n i j else rowP n i j ++ [((i : Int) + 1, (j : Int) + 1)] := by
  unfold rowP
  rw [List.range_succ, List.filter_append]
  by_cases e : j = i
  · rw [if_pos e, List.filter_cons_of_neg (by rw [decide_eq_true e]; exact Bool.false_ne_true), List.filter_nil, List.append_nil]
  · rw [if_neg e, List.filter_cons_of_pos (by rw [decide_eq_false e]; rfl), List.filter_nil, List.map_append]; rfl
theorem preP_succ (n i : Nat) : preP n (i + 1) = preP n i ++ rowP n i n := by
  unfold preP
  rw [List.range_succ, List.flatMap_append]
  simp
theorem mem_rowP {n i j : Nat} {p : Pq} : p ∈ rowP n i j ↔ p.1 = (i : Int) + 1 ∧ 1 ≤ p.2 ∧ p.2 ≤ j ∧ p.1 ≠ p.2 := by
  unfold rowP
  rw [List.mem_map]
  constructor
  · rintro ⟨k, hk, rfl⟩
    obtain ⟨h1, h2⟩ := List.mem_filter.mp hk
    have := List.mem_range.mp h1
    have h2 : ¬ k = i := by simpa using h2
    refine ⟨rfl, ?_, ?_, ?_⟩ <;> dsimp only <;> omega
  · rintro ⟨h1, h2, h3, h4⟩
    refine ⟨(p.2 - 1).toNat, List.mem_filter.mpr ⟨List.mem_range.mpr (by omega), ?_⟩, Prod.ext h1.symm ?_⟩
    · have : ¬ (p.2 - 1).toNat = i := by omega
      simpa using this
    · show (((p.2 - 1).toNat : Nat) : Int) + 1 = p.2
      omega
theorem mem_preP {n i : Nat} {p : Pq} : p ∈ preP n i ↔ 1 ≤ p.1 ∧ p.1 ≤ i ∧ 1 ≤ p.2 ∧ p.2 ≤ n ∧ p.1 ≠ p.2 := by
  unfold preP
  rw [List.mem_flatMap]
  constructor
  · rintro ⟨k, hk, h⟩
    have := List.mem_range.mp hk
    obtain ⟨h1, h2, h3, h4⟩ := mem_rowP.mp h
    exact ⟨by omega, by omega, h2, h3, h4⟩
  · rintro ⟨h1, h2, h3, h4, h5⟩
    exact ⟨(p.1 - 1).toNat, List.mem_range.mpr (by omega), mem_rowP.mpr ⟨by omega, h3, h4, h5⟩⟩
def allP (n : Int) : List Pq := preP n.toNat n.toNat
theorem mem_allP {n : Int} (h : 0 ≤ n) {p : Pq} : p ∈ allP n ↔ 1 ≤ p.1 ∧ p.1 ≤ n ∧ 1 ≤ p.2 ∧ p.2 ≤ n ∧ p.1 ≠ p.2 := by
  unfold allP
  rw [mem_preP]
  have : ((n.toNat : Nat) : Int) = n := by omega
  rw [this]
def sumL (ps : List Pq) (Q : Pq → Lts) : Int := (ps.map fun p => (((Q p).length : Nat) : Int)).sum
theorem sumL_app (ps qs : List Pq) (Q : Pq → Lts) : sumL (ps ++ qs) Q = sumL ps Q + sumL qs Q := by
  unfold sumL
  rw [List.map_append, List.sum_append]
theorem sumL_one (p : Pq) (Q : Pq → Lts) : sumL [p] Q = (((Q p).length : Nat) : Int) := by
  unfold sumL
  simp
/-- lines with their queues: their places dq, their totals tt -/
structure LnQ (K : PySem.W.Frag) (H : Hp) (a : Addr) (n : Int) (c t q : Addr) (kvs : Cuts) (tt : Tot) (ps : List Pq) (dq : Pq → Addr) : Prop where
  ins : ∃ (dx : Addr) (fs : List (Str × V)), H a = some (.ins (cLin K) dx fs) ∧ fs.lookup ("_count" : Str) = some (.int n) ∧ fs.lookup ("_cuts" : Str) = some (.ref c) ∧ fs.lookup ("_totals" : Str) = some (.ref t) ∧ fs.lookup ("_queues" : Str) = some (.ref q) ∧
    ∀ m : Str, m ∉ (["_count", "_cuts", "_totals", "_queues"] : List Str) → fs.lookup m = none
  cuts : H c = some (.dT kvs)
  tot : H t = some (.dK (totV tt))
  que : H q = some (.dT (rows ps dq))
  cq : c ≠ q
section
variable {K : PySem.W.Frag} {H H' : Hp} {a c t q : Addr} {n : Int} {kvs kvs' : Cuts} {tt tt' : Tot} {ps : List Pq} {dq : Pq → Addr} {S : List Addr}
theorem LnQ.fr (h : LnQ K H a n c t q kvs tt ps dq) (f : Fr S H H') (na : a ∉ S) (nc : c ∉ S) (nt : t ∉ S) (nq : q ∉ S) : LnQ K H' a n c t q kvs tt ps dq := by
  obtain ⟨dx, fs, h1, h2⟩ := h.ins
  exact ⟨⟨dx, fs, f _ _ na h1, h2⟩, f _ _ nc h.cuts, f _ _ nt h.tot, f _ _ nq h.que, h.cq⟩
theorem LnQ.same (h : LnQ K H a n c t q kvs tt ps dq) (f : Same H H') : LnQ K H' a n c t q kvs tt ps dq := h.fr (S := []) (Fr.of f) (by simp) (by simp) (by simp) (by simp)
theorem LnQ.ln (h : LnQ K H a n c t q kvs tt ps dq) : Ln K H a n c kvs := by
  obtain ⟨dx, fs, h1, h2, h3, h4, h5, h6⟩ := h.ins
  exact ⟨dx, fs, h1, h2, h3, h6, h.cuts⟩
theorem LnQ.na (h : LnQ K H a n c t q kvs tt ps dq) : a ≠ c ∧ a ≠ t ∧ a ≠ q ∧ c ≠ t ∧ q ≠ t := by
  obtain ⟨dx, fs, h1, h2⟩ := h.ins
  have h3 := h.cuts
  have h4 := h.tot
  have h5 := h.que
  exact ⟨fun z => (by rw [z, h3] at h1; cases h1), fun z => (by rw [z, h4] at h1; cases h1), fun z => (by rw [z, h5] at h1; cases h1), fun z => (by rw [z, h4] at h3; cases h3), fun z => (by rw [z, h4] at h5; cases h5)⟩
/-- a list is no part of the lines' own -/
theorem LnQ.nl (h : LnQ K H a n c t q kvs tt ps dq) {d : Addr} {l : List V} (e : H d = some (.lst l)) : d ≠ a ∧ d ≠ c ∧ d ≠ t ∧ d ≠ q := by
  obtain ⟨dx, fs, h1, h2⟩ := h.ins
  have h3 := h.cuts
  have h4 := h.tot
  have h5 := h.que
  exact ⟨fun z => (by rw [z, h1] at e; cases e), fun z => (by rw [z, h3] at e; cases e), fun z => (by rw [z, h4] at e; cases e), fun z => (by rw [z, h5] at e; cases e)⟩
theorem LnQ.putT (h : LnQ K H a n c t q kvs tt ps dq) : LnQ K (upd H t (.dK (totV tt'))) a n c t q kvs tt' ps dq := by
  obtain ⟨n1, n2, n3, n4, n5⟩ := h.na
  obtain ⟨dx, fs, h1, h2⟩ := h.ins
  exact ⟨⟨dx, fs, by rw [upd_ne n2]; exact h1, h2⟩, by rw [upd_ne n4]; exact h.cuts, upd_same, by rw [upd_ne n5]; exact h.que, h.cq⟩
theorem LnQ.putC (h : LnQ K H a n c t q kvs tt ps dq) : LnQ K (upd H c (.dT kvs')) a n c t q kvs' tt ps dq := by
  obtain ⟨n1, n2, n3, n4, n5⟩ := h.na
  obtain ⟨dx, fs, h1, h2⟩ := h.ins
  exact ⟨⟨dx, fs, by rw [upd_ne n1]; exact h1, h2⟩, upd_same, by rw [upd_ne n4.symm]; exact h.tot, by rw [upd_ne h.cq.symm]; exact h.que, h.cq⟩
theorem LnQ.putL (h : LnQ K H a n c t q kvs tt ps dq) {d : Addr} {l l' : List V} (e : H d = some (.lst l)) : LnQ K (upd H d (.lst l')) a n c t q kvs tt ps dq := by
  obtain ⟨n1, n2, n3, n4⟩ := h.nl e
  exact h.fr (S := [d]) ((Fr.refl _ _).put (by simp)) (by simp; exact n1.symm) (by simp; exact n2.symm) (by simp; exact n3.symm) (by simp; exact n4.symm)
theorem LnQ.fc (c1 : Cls K (cLin K)) (c2 : NoAttr K (cLin K) "_cuts") (h : LnQ K H a n c t q kvs tt ps dq) {R : V → Prop} (r : R (.ref c)) : ∃ a' C dx fs v, V.ref a = .ref a' ∧ H a' = some (.ins C dx fs) ∧ Cls K C ∧ NoAttr K C "_cuts" ∧ fs.lookup ("_cuts" : Str) = some v ∧ R v := by
  obtain ⟨dx, fs, h1, h2, h3, h4, h5, h6⟩ := h.ins
  exact ⟨a, _, dx, fs, _, rfl, h1, c1, c2, h3, r⟩
theorem LnQ.ft (c1 : Cls K (cLin K)) (c2 : NoAttr K (cLin K) "_totals") (h : LnQ K H a n c t q kvs tt ps dq) {R : V → Prop} (r : R (.ref t)) : ∃ a' C dx fs v, V.ref a = .ref a' ∧ H a' = some (.ins C dx fs) ∧ Cls K C ∧ NoAttr K C "_totals" ∧ fs.lookup ("_totals" : Str) = some v ∧ R v := by
  obtain ⟨dx, fs, h1, h2, h3, h4, h5, h6⟩ := h.ins
  exact ⟨a, _, dx, fs, _, rfl, h1, c1, c2, h4, r⟩
theorem LnQ.fq (c1 : Cls K (cLin K)) (c2 : NoAttr K (cLin K) "_queues") (h : LnQ K H a n c t q kvs tt ps dq) {R : V → Prop} (r : R (.ref q)) : ∃ a' C dx fs v, V.ref a = .ref a' ∧ H a' = some (.ins C dx fs) ∧ Cls K C ∧ NoAttr K C "_queues" ∧ fs.lookup ("_queues" : Str) = some v ∧ R v := by
  obtain ⟨dx, fs, h1, h2, h3, h4, h5, h6⟩ := h.ins
  exact ⟨a, _, dx, fs, _, rfl, h1, c1, c2, h5, r⟩
theorem LnQ.me {m : Str} (hm : m ∉ (["_count", "_cuts", "_totals", "_queues"] : List Str)) (h : LnQ K H a n c t q kvs tt ps dq) {G : Prop} (r : G) : ∃ a' dx fs, V.ref a = .ref a' ∧ H a' = some (.ins (cLin K) dx fs) ∧ fs.lookup m = none ∧ G := by
  obtain ⟨dx, fs, h1, h2, h3, h4, h5, h6⟩ := h.ins
  exact ⟨a, dx, fs, rfl, h1, h6 m hm, r⟩
/-- the queue of a pair, read off the dict -/
theorem LnQ.dg (h : LnQ K H a n c t q kvs tt ps dq) {x y : Int} (hp : (x, y) ∈ ps) {T : Addr} (hT : H T = some (.tup [.int x, .int y])) {R : V → Prop} (r : R (.ref (dq (x, y)))) : ∃ a' v, V.ref q = .ref a' ∧ DGet H a' (.ref T) (some v) ∧ R v := by
  refine ⟨q, _, rfl, ?_, r⟩
  have g := DGet.t (k := ky (x, y)) h.que hT
  rw [rows_get hp] at g
  exact g
end
def spot (i : Int) (n : Nat) : Bool := decide (0 ≤ i) && decide (i < (n : Int))
theorem seqI {i : Int} {n : Nat} (h0 : 0 ≤ i) (h1 : i < n) : seqIndex? i n = some i.toNat := by
  unfold seqIndex?
  simp only
  rw [if_neg (show ¬ i < 0 by omega), if_pos (by simp; omega)]
theorem spot_iff {i : Int} {n : Nat} (h : spot i n = true) : 0 ≤ i ∧ i < n := by
  unfold spot at h
  rw [Bool.and_eq_true, decide_eq_true_eq, decide_eq_true_eq] at h
  exact h
/-- a letter taken out -/
theorem prd_erase {α β : Type} {R : α → β → Prop} : ∀ {xs : List α} {ys : List β} (i : Nat), Paired R xs ys → Paired R (xs.eraseIdx i) (ys.eraseIdx i)
  | _, _, _, .nil => .nil
  | _, _, 0, .cons a b => b
  | _, _, i + 1, .cons a b => .cons a (prd_erase i b)
theorem prd_set {α β : Type} {R : α → β → Prop} {x : α} {y : β} (h : R x y) : ∀ {xs : List α} {ys : List β} (i : Nat), Paired R xs ys → Paired R (xs.set i x) (ys.set i y)
  | _, _, _, .nil => .nil
  | _, _, 0, .cons a b => .cons h b
  | _, _, i + 1, .cons a b => .cons a (prd_set h i b)
theorem map_erase {α β : Type} (f : α → β) : ∀ (xs : List α) (i : Nat), (xs.map f).eraseIdx i = (xs.eraseIdx i).map f
  | [], _ => rfl
  | _ :: _, 0 => rfl
  | x :: xs, i + 1 => by
    show f x :: (xs.map f).eraseIdx i = f x :: (xs.eraseIdx i).map f
    rw [map_erase f xs i]
theorem lol_ne {M : Addr → Prop} {K : PySem.W.Frag} {H : Hp} {a c t q : Addr} {n : Int} {kvs : Cuts} {tt : Tot} {ps : List Pq} {dq : Pq → Addr} {d : Addr} {ls : Lts} (hL : LnQ K H a n c t q kvs tt ps dq) (hQ : Lol M H d ls) : d ≠ t := by
  obtain ⟨qs, eq, _⟩ := hQ
  exact (hL.nl eq).2.2.1
theorem sep_t {M : Addr → Prop} {K : PySem.W.Frag} {H : Hp} {a c t q : Addr} {n : Int} {kvs : Cuts} {tt : Tot} {ps : List Pq} {dq : Pq → Addr} (hL : LnQ K H a n c t q kvs tt ps dq) : Sep M [t] H := fun x hx => .inr fun l => by rw [List.mem_singleton.mp hx, hL.tot]; intro z; cases z
theorem lol_t {M : Addr → Prop} {K : PySem.W.Frag} {H : Hp} {a c t q : Addr} {n : Int} {kvs : Cuts} {tt : Tot} {ps : List Pq} {dq : Pq → Addr} {d : Addr} {ls : Lts} {o : HO} (hL : LnQ K H a n c t q kvs tt ps dq) (hQ : Lol M H d ls) : Lol M (upd H t o) d ls :=
  hQ.fr (S := [t]) ((Fr.refl _ _).put (by simp)) (by simp only [List.mem_singleton]; exact lol_ne hL hQ) (sep_t hL)
theorem ixN_in {n : Nat} {i : Int} (h0 : 0 ≤ i) (h1 : i < n) : ixN n i = some i.toNat := by
  unfold ixN
  rw [if_pos h0, if_pos h1]
theorem map_set {α β : Type} (f : α → β) : ∀ (xs : List α) (i : Nat) (x : α), (xs.map f).set i (f x) = (xs.set i x).map f
  | [], _, _ => rfl
  | _ :: _, 0, _ => rfl
  | y :: xs, i + 1, x => by
    show f y :: (xs.map f).set i (f x) = f y :: (xs.set i x).map f
    rw [map_set f xs i x]
theorem unlock {H H' : Hp} {q : Addr} {u l : HO} (e : H q = some u) (s : Same (upd H q l) H') : Same H (upd H' q u) := fun x o g => by
  by_cases z : x = q
  · rw [z, e] at g
    rw [z, upd_same]
    exact g
  · rw [upd_ne z]
    exact s x o (by rw [upd_ne z]; exact g)
/-! ### pairs of ints as tuples, and lists of them -/
structure Jn (H : Hp) (J : Addr) (qs : List Addr) (prs : List (Int × Int)) : Prop where
  j : H J = some (.lst (qs.map V.ref))
  pp : Paired (Pr H) qs prs
theorem Jn.same {H H' : Hp} {J : Addr} {qs : List Addr} {prs : List (Int × Int)} (h : Jn H J qs prs) (e : Same H H') : Jn H' J qs prs := ⟨e _ _ h.j, prd_imp (fun _ _ q => e _ _ q) h.pp⟩
theorem Jn.fr {S : List Addr} {H H' : Hp} {J : Addr} {qs : List Addr} {prs : List (Int × Int)} (h : Jn H J qs prs) (e : Fr S H H') (n : J ∉ S) (s : ∀ x ∈ S, ∀ l, H x ≠ some (.tup l)) : Jn H' J qs prs :=
  ⟨e _ _ n h.j, prd_imp (fun T _ q => e _ _ (fun m => s T m _ q) q) h.pp⟩
theorem pair_dec (w x : Int × Int) : decide ([w.1, w.2] = [x.1, x.2]) = decide (w = x) := by
  refine decide_eq_decide.mpr ⟨fun h => ?_, fun h => by rw [h]⟩
  injection h with h1 h2
  injection h2 with h2
  exact Prod.ext h1 h2
abbrev Dpp (v : List (Int × Int)) : List PyData := v.map fun c => .tuple [.int c.1, .int c.2]
theorem dpp_all {K : PySem.W.Frag} {H : Hp} : ∀ {ps : List Addr} {v : List (Int × Int)}, Paired (Pr H) ps v → DpAll K H (ps.map V.ref) (Dpp v)
  | _, _, .nil => .nil
  | _, _, .cons (b := c) a b => .cons (.tup (xs := [.int c.1, .int c.2]) (SqT.of a) (.cons (.int _) (.cons (.int _) .nil))) (dpp_all b)
theorem dpp_can : ∀ v : List (Int × Int), PyData.canLayAll0 (Dpp v) = true
  | [] => rfl
  | c :: v => by
    show (PyData.canLayAll0 (Di [c.1, c.2]) && PyData.canLayAll0 (Dpp v)) = true
    rw [dpp_can v, canAll_ints]; rfl
theorem dpp_depth : ∀ v : List (Int × Int), PyData.depthAll (Dpp v) ≤ 1
  | [] => by
    show 0 ≤ 1
    omega
  | c :: v => by
    have ih := dpp_depth v
    show max (PyData.depthAll (Di [c.1, c.2]) + 1) (PyData.depthAll (Dpp v)) ≤ 1
    rw [Vf.depthAll_ints]
    omega
theorem dpp_any (u v : Int) : ∀ prs : List (Int × Int), ((Dpp prs).any fun z => PyData.eqv z (.tuple (Di [u, v]))) = decide ((u, v) ∈ prs)
  | [] => by simp
  | c :: r => by
    have ih := dpp_any u v r
    rw [show Dpp (c :: r) = .tuple [.int c.1, .int c.2] :: Dpp r from rfl, List.any_cons, ih]
    have e : PyData.eqv (.tuple [.int c.1, .int c.2]) (.tuple (Di [u, v])) = decide (c = (u, v)) := by
      show PyData.eqvAll (Di [c.1, c.2]) (Di [u, v]) = _
      rw [eqvAll_ints]
      exact pair_dec c (u, v)
    rw [e]
    by_cases h1 : c = (u, v)
    · rw [decide_eq_true h1, h1]; simp
    · rw [decide_eq_false h1, Bool.false_or]
      refine decide_eq_decide.mpr ⟨List.mem_cons_of_mem _, fun m => ?_⟩
      rcases List.mem_cons.mp m with m | m
      · exact absurd m.symm h1
      · exact m
theorem e_ninP {K : PySem.W.Frag} {H : Hp} {Q : VK} {T J : Addr} {qs : List Addr} {u v : Int} {prs : List (Int × Int)} (hT : H T = some (.tup [.int u, .int v])) (h : Jn H J qs prs) (q : Q (.bl (!decide ((u, v) ∈ prs))) H) : rNotInD K (.ref T) (.ref J) H Q :=
  ⟨_, _, .tup (SqT.of hT) (dpAll_ints [u, v]), .lst (SqL.of h.j) (dpp_all h.pp), shaped_ti [u, v], shaped_list (dpp_can prs) (Nat.le_trans (dpp_depth prs) (by decide)), by rw [dpp_any]; exact q⟩
/-! lists of rows of ints as data -/
abbrev Dll (cs : List (List Int)) : List PyData := cs.map fun c => .list (Di c)
theorem dll_all {K : PySem.W.Frag} {H : Hp} {M : Addr → Prop} : ∀ {ps : List Addr} {cs : List (List Int)}, Paired (fun p (c : List Int) => H p = some (.lst (c.map V.int))) ps cs → DpAll K H (ps.map V.ref) (Dll cs)
  | _, _, .nil => .nil
  | _, _, .cons (b := c) a b => .cons (.lst (SqL.of a) (dpAll_ints c)) (dll_all (M := M) b)
theorem dll_can : ∀ v : List (List Int), PyData.canLayAll0 (Dll v) = true
  | [] => rfl
  | c :: v => by
    show (PyData.canLayAll0 (Di c) && PyData.canLayAll0 (Dll v)) = true
    rw [dll_can v, canAll_ints]; rfl
theorem dll_depth : ∀ v : List (List Int), PyData.depthAll (Dll v) ≤ 1
  | [] => by
    show 0 ≤ 1
    omega
  | c :: v => by
    have ih := dll_depth v
    show max (PyData.depthAll (Di c) + 1) (PyData.depthAll (Dll v)) ≤ 1
    rw [Vf.depthAll_ints]
    omega
theorem dll_eqv : ∀ v w : List (List Int), PyData.eqvAll (Dll v) (Dll w) = decide (v = w)
  | [], [] => by simp [PyData.eqvAll]
  | [], _ :: _ => by simp [PyData.eqvAll]
  | _ :: _, [] => by simp [PyData.eqvAll]
  | c :: v, d :: w => by
    have ih := dll_eqv v w
    show (PyData.eqvAll (Di c) (Di d) && PyData.eqvAll (Dll v) (Dll w)) = _
    rw [ih, eqvAll_ints]
    by_cases h1 : c = d <;> by_cases h2 : v = w <;> simp [h1, h2]
theorem e_neLol {K : PySem.W.Frag} {H : Hp} {Q : VK} {a b : Addr} {ps qs : List Addr} {v w : List (List Int)} (ea : H a = some (.lst (ps.map V.ref))) (pa : Paired (fun p (c : List Int) => H p = some (.lst (c.map V.int))) ps v)
    (eb : H b = some (.lst (qs.map V.ref))) (pb : Paired (fun p (c : List Int) => H p = some (.lst (c.map V.int))) qs w) (q : Q (.bl (!decide (v = w))) H) : rNeD K (.ref a) (.ref b) H Q :=
  ⟨_, _, .lst (SqL.of ea) (dll_all (M := fun _ => True) pa), .lst (SqL.of eb) (dll_all (M := fun _ => True) pb), shaped_list (dll_can v) (Nat.le_trans (dll_depth v) (by decide)), shaped_list (dll_can w) (Nat.le_trans (dll_depth w) (by decide)), by
    rw [show PyData.eqv (.list (Dll v)) (.list (Dll w)) = PyData.eqvAll (Dll v) (Dll w) from rfl, dll_eqv]
    exact q⟩
theorem drFr {K : PySem.W.Frag} {H0 H H' : Hp} {st sc : Addr} {ns : List Int} {S : List Addr} (d0 : Dr K st sc ns H0) (k : Kp st H0 H) (d : Dr K st sc ns H) (f : Fr S H H') (b : ∀ x ∈ S, H0 x = none) : Kp st H0 H' ∧ Dr K st sc ns H' := by
  have k' : Kp st H0 H' := fun x o n e => f x o (fun m => by rw [b x m] at e; cases e) (k x o n e)
  refine ⟨k', d0.kp k' ?_⟩
  obtain ⟨x, y, hx, hy, e⟩ := d.s
  refine ⟨x, y, hx, hy, f _ _ (fun m => ?_) e⟩
  obtain ⟨u, v, _, _, e0⟩ := d0.s
  rw [b st m] at e0
  cases e0
theorem swap_eq {α : Type} : ∀ (xs : List α) (i : Nat) (e f : α), xs[i]? = some e → xs[i + 1]? = some f → (xs.eraseIdx i).take (i + 1) ++ [e] ++ (xs.eraseIdx i).drop (i + 1) = (xs.set i f).set (i + 1) e
  | [], i, e, f, h, _ => by simp at h
  | [x], 0, e, f, _, h => by simp at h
  | x :: y :: r, 0, e, f, h1, h2 => by
    simp at h1 h2
    subst h1 h2
    simp
  | x :: r, i + 1, e, f, h1, h2 => by
    have ih := swap_eq r i e f (by simpa using h1) (by simpa using h2)
    show x :: ((r.eraseIdx i).take (i + 1) ++ [e] ++ (r.eraseIdx i).drop (i + 1)) = x :: ((r.set i f).set (i + 1) e)
    rw [ih]
theorem cnt_erase {α : Type} [DecidableEq α] [BEq α] [LawfulBEq α] (c : α) : ∀ (l : List α) (i : Nat) (e : α), l[i]? = some e → l.count c = (l.eraseIdx i).count c + if e = c then 1 else 0
  | [], i, e, h => by simp at h
  | x :: r, 0, e, h => by
    simp at h
    subst h
    rw [List.count_cons]
    show _ = r.count c + _
    by_cases q : x = c
    · rw [if_pos q, if_pos (by simpa using q)]
    · rw [if_neg q, if_neg (by simpa using q)]
  | x :: r, i + 1, e, h => by
    have ih := cnt_erase c r i e (by simpa using h)
    show (x :: r).count c = (x :: r.eraseIdx i).count c + _
    rw [List.count_cons, List.count_cons, ih]
    omega
theorem cnt_swap {α : Type} [DecidableEq α] [BEq α] [LawfulBEq α] (c : α) (l : List α) (i : Nat) (e f : α) (h1 : l[i]? = some e) (h2 : l[i + 1]? = some f) : ((l.set i f).set (i + 1) e).count c = l.count c := by
  rw [← swap_eq l i e f h1 h2, cnt_erase c l i e h1, List.count_append, List.count_append, List.count_singleton]
  have h := congrArg (List.count c) (List.take_append_drop (i + 1) (l.eraseIdx i))
  rw [List.count_append] at h
  by_cases q : e = c
  · rw [if_pos q, if_pos (by simpa using q)]; omega
  · rw [if_neg q, if_neg (by simpa using q)]; omega
theorem rowP_nodup (n i j : Nat) : (rowP n i j).Nodup := by
  unfold rowP List.Nodup
  rw [List.pairwise_map]
  refine (List.Pairwise.filter _ List.nodup_range).imp fun {a b} h e => h ?_
  have := congrArg Prod.snd e
  simp only at this
  omega
theorem preP_nodup (n : Nat) : ∀ i, (preP n i).Nodup
  | 0 => by unfold preP; simp
  | i + 1 => by
    rw [preP_succ, List.nodup_append]
    refine ⟨preP_nodup n i, rowP_nodup n i n, fun a ha b hb e => ?_⟩
    have h1 := (mem_preP.mp ha).2.1
    have h2 := (mem_rowP.mp hb).1
    rw [e] at h1
    omega
def updQ (Q : Pq → Lts) (p : Pq) (v : Lts) : Pq → Lts := fun x => if x = p then v else Q x
theorem updQ_at (Q : Pq → Lts) (p : Pq) (v : Lts) : updQ Q p v p = v := by unfold updQ; rw [if_pos rfl]
theorem updQ_ne {Q : Pq → Lts} {p x : Pq} {v : Lts} (h : x ≠ p) : updQ Q p v x = Q x := by unfold updQ; rw [if_neg h]
theorem updQ_self (Q : Pq → Lts) (p : Pq) : updQ Q p (Q p) = Q := by
  funext x
  unfold updQ
  by_cases e : x = p
  · rw [if_pos e, e]
  · rw [if_neg e]
theorem allP_le {n : Int} (h : n ≤ 9) : (allP n).length ≤ 1000 := by
  have l2 : ∀ i, (preP n.toNat i).length ≤ n.toNat * i := fun i => by
    induction i with
    | zero => exact Nat.le_refl _
    | succ i ih =>
      rw [preP_succ, List.length_append]
      have : (rowP n.toNat i n.toNat).length ≤ n.toNat := by
        unfold rowP
        rw [List.length_map]
        exact Nat.le_trans (List.length_filter_le ..) (by rw [List.length_range]; exact Nat.le_refl _)
      rw [Nat.mul_succ]
      omega
  have := l2 n.toNat
  have : n.toNat * n.toNat ≤ 9 * 9 := Nat.mul_le_mul (by omega) (by omega)
  unfold allP
  omega
theorem sumL_upd {Q : Pq → Lts} {p : Pq} {v : Lts} : ∀ {ps : List Pq}, ps.Nodup → p ∈ ps → sumL ps (updQ Q p v) = sumL ps Q + ((v.length : Nat) : Int) - (((Q p).length : Nat) : Int)
  | [], _, h => by cases h
  | x :: r, nd, h => by
    rw [List.nodup_cons] at nd
    show sumL ([x] ++ r) _ = sumL ([x] ++ r) _ + _ - _
    rw [sumL_app, sumL_app, sumL_one, sumL_one]
    by_cases e : x = p
    · subst e
      have : sumL r (updQ Q x v) = sumL r Q := by
        unfold sumL
        congr 1
        refine List.map_congr_left fun y hy => ?_
        rw [updQ_ne fun z => nd.1 (by rw [← z]; exact hy)]
      rw [this, updQ_at]
      omega
    · rw [updQ_ne e]
      have ih := sumL_upd (Q := Q) (v := v) nd.2 (show p ∈ r by
        rcases List.mem_cons.mp h with h | h
        · exact absurd h.symm e
        · exact h)
      rw [ih]
      omega
theorem mem2 {x a b : Addr} (h1 : x ≠ a) (h2 : x ≠ b) : x ∉ [a, b] := by simp; exact ⟨h1, h2⟩
theorem ns_ref {d : Addr} {H : Hp} {qs : List Addr} {x y : Int} {st : Addr} (e : H d = some (.lst (qs.map V.ref))) (es : H st = some (.lst [.int x, .int y])) : d ≠ st := by
  intro z
  rw [z, es] at e
  cases qs with
  | nil => cases e
  | cons _ _ => cases e
structure Wp where
  H0 : Hp
  st : Addr
  sc : Addr
  ns : List Int
  a : Addr
  c : Addr
  t : Addr
  q : Addr
  G : Addr
  n : Int
  dq : Pq → Addr
abbrev Led := List (Pq × Int)
structure Vs where
  kvs : Cuts
  tt : Tot
  Q : Pq → Lts
  rs : List Addr
  led : Led
def Wp.M (w : Wp) (rs : List Addr) (x : Addr) : Prop := (∃ p ∈ allP w.n, x = w.dq p) ∨ x = w.G ∨ x ∈ rs ∨ x = w.st
structure Fx (K : PySem.W.Frag) (w : Wp) : Prop where
  d0 : Dr K w.st w.sc w.ns w.H0
  n1 : 1 ≤ w.n
  n9 : w.n ≤ 9
  bc : w.H0 w.c = none
  bt : w.H0 w.t = none
  bd : ∀ p ∈ allP w.n, w.H0 (w.dq p) = none
  bG : w.H0 w.G = none
  id : ∀ p p', p ∈ allP w.n → p' ∈ allP w.n → w.dq p = w.dq p' → p = p'
  gd : ∀ p ∈ allP w.n, w.G ≠ w.dq p
/-- a row of the ledger -/
def Row (H : Hp) (r : Addr) (e : Pq × Int) : Prop := ∃ P : Addr, H r = some (.lst [.ref P, .int e.2]) ∧ H P = some (.tup [.int e.1.1, .int e.1.2])
structure VL (K : PySem.W.Frag) (w : Wp) (z : Vs) (H : Hp) : Prop where
  k : Kp w.st w.H0 H
  d : Dr K w.st w.sc w.ns H
  l : LnQ K H w.a w.n w.c w.t w.q z.kvs z.tt (allP w.n) w.dq
  qd : ∀ p ∈ allP w.n, Lol (w.M z.rs) H (w.dq p) (z.Q p)
  g : H w.G = some (.lst (z.rs.map V.ref))
  pp : Paired (Row H) z.rs z.led
  nd : z.rs.Nodup
  rb : ∀ r ∈ z.rs, w.H0 r = none
theorem Row.fr {S : List Addr} {H H' : Hp} {r : Addr} {e : Pq × Int} (h : Row H r e) (f : Fr S H H') (nr : r ∉ S) (nt : ∀ x ∈ S, ∀ l, H x ≠ some (.tup l)) : Row H' r e := by
  obtain ⟨P, h1, h2⟩ := h
  exact ⟨P, f _ _ nr h1, f _ _ (fun m => nt P m _ h2) h2⟩
theorem row_mem {H : Hp} {rs : List Addr} {led : Led} (h : Paired (Row H) rs led) : ∀ r ∈ rs, ∃ e, Row H r e := by
  induction h with
  | nil => intro r hr; cases hr
  | cons a b ih =>
    intro r hr
    rcases List.mem_cons.mp hr with hr | hr
    · rw [hr]; exact ⟨_, a⟩
    · exact ih r hr
theorem prd_impm {α β : Type} {R S : α → β → Prop} : ∀ {xs : List α} {ys : List β}, (∀ a b, a ∈ xs → R a b → S a b) → Paired R xs ys → Paired S xs ys
  | _, _, _, .nil => .nil
  | _, _, f, .cons a b => .cons (f _ _ (by simp) a) (prd_impm (fun x y h => f x y (List.mem_cons_of_mem _ h)) b)
theorem Row.nref {H : Hp} {r : Addr} {e : Pq × Int} (h : Row H r e) (qs : List Addr) : H r ≠ some (.lst (qs.map V.ref)) := by
  obtain ⟨P, h1, _⟩ := h
  rw [h1]
  intro z
  injection z with z
  injection z with z
  match qs, z with
  | [], z => cases z
  | [_], z => cases z
  | _ :: _ :: _, z => injection z with _ z; injection z with z; cases z
section
variable {K : PySem.W.Frag} {w : Wp} {z : Vs} {H H' : Hp} {S : List Addr}
theorem VL.same (h : VL K w z H) (f : Same H H') : VL K w z H' :=
  ⟨h.k.trans (Kp.of f), h.d.same f, h.l.same f, fun p hp => (h.qd p hp).same f, f _ _ h.g, prd_imp (fun r e q => Row.fr (S := []) q (Fr.of f) (by simp) (fun x m => by cases m)) h.pp, h.nd, h.rb⟩
theorem VL.al (h : VL K w z H) : ∀ x, w.M z.rs x → H x ≠ none := fun x m e => by
  rcases m with ⟨p, hp, m⟩ | m | m | m
  · obtain ⟨qs, eq, _⟩ := h.qd p hp
    rw [m, eq] at e; cases e
  · rw [m, h.g] at e; cases e
  · obtain ⟨_, P, h1, _⟩ := row_mem h.pp x m
    rw [h1] at e; cases e
  · obtain ⟨x, y, _, _, es⟩ := h.d.s
    rw [m, es] at e; cases e
theorem VL.kp (h : VL K w z H) (f : Kp w.st H H') (d : Dr K w.st w.sc w.ns H') : VL K w z H' := by
  obtain ⟨x, y, _, _, es⟩ := h.d.s
  have g : Fr [w.st] H H' := fun x o n e => f x o (by simpa using n) e
  have sp : Sep (w.M z.rs) [w.st] H := fun x m => by rw [List.mem_singleton.mp m]; exact .inl (.inr (.inr (.inr rfl)))
  obtain ⟨dx, fs, hi, _⟩ := h.l.ins
  have hc := h.l.cuts
  have ht := h.l.tot
  have hq := h.l.que
  refine ⟨h.k.trans f, d, h.l.fr g ?_ ?_ ?_ ?_, fun p hp => (h.qd p hp).fr g ?_ sp, g _ _ ?_ h.g, prd_imp (fun r e q => q.fr g ?_ ?_) h.pp, h.nd, h.rb⟩
  · simp only [List.mem_singleton]; exact fun z => (by rw [z, es] at hi; cases hi)
  · simp only [List.mem_singleton]; exact fun z => (by rw [z, es] at hc; cases hc)
  · simp only [List.mem_singleton]; exact fun z => (by rw [z, es] at ht; cases ht)
  · simp only [List.mem_singleton]; exact fun z => (by rw [z, es] at hq; cases hq)
  · simp only [List.mem_singleton]
    obtain ⟨qs, eq, _⟩ := h.qd p hp
    exact ns_ref eq es
  · simp only [List.mem_singleton]; exact ns_ref h.g es
  · simp only [List.mem_singleton]
    obtain ⟨P, h1, _⟩ := q
    exact fun z => by rw [z, es] at h1; cases h1
  · intro x m l
    rw [List.mem_singleton.mp m, es]
    intro z; cases z
theorem VL.call (F : Fx K w) {p : Pq} {v : Lts} {tt' : Tot} (hp : p ∈ allP w.n) (h : VL K w z H) (f : Fr [w.t, w.dq p] H H') (hl : LnQ K H' w.a w.n w.c w.t w.q z.kvs tt' (allP w.n) w.dq) (hq : Lol (w.M z.rs) H' (w.dq p) v) : VL K w { z with tt := tt', Q := updQ z.Q p v } H' := by
  obtain ⟨k1, d1⟩ := drFr F.d0 h.k h.d f fun x m => by
    simp only [List.mem_cons, List.not_mem_nil, or_false] at m
    rcases m with m | m
    · rw [m]; exact F.bt
    · rw [m]; exact F.bd p hp
  have ht := h.l.tot
  obtain ⟨ps, ep, _⟩ := h.qd p hp
  have tk : ∀ x ∈ [w.t, w.dq p], ∀ l, H x ≠ some (.tup l) := fun x m l e => by
    simp only [List.mem_cons, List.not_mem_nil, or_false] at m
    rcases m with m | m
    · rw [m, ht] at e; cases e
    · rw [m, ep] at e; cases e
  refine ⟨k1, d1, hl, fun x hx => ?_, f _ _ (mem2 (fun e => ?_) (F.gd p hp)) h.g, prd_imp (fun r e q => q.fr f (mem2 (fun y => ?_) fun y => ?_) tk) h.pp, h.nd, h.rb⟩
  · by_cases e : x = p
    · rw [e]
      show Lol _ _ _ (updQ z.Q p v p)
      rw [updQ_at]; exact hq
    · show Lol _ _ _ (updQ z.Q p v x)
      rw [updQ_ne e]
      obtain ⟨qs, eq, _⟩ := h.qd x hx
      refine (h.qd x hx).fr f (mem2 (h.l.nl eq).2.2.1 fun y => e (F.id x p hx hp y)) fun y m => ?_
      rcases List.mem_cons.mp m with m | m
      · exact .inr fun l => by rw [m, ht]; intro y; cases y
      · rw [List.mem_singleton.mp m]; exact .inl (.inl ⟨p, hp, rfl⟩)
  · have := h.g; rw [e, ht] at this; cases this
  · obtain ⟨P, h1, _⟩ := q; rw [y, ht] at h1; cases h1
  · rw [y] at q; exact q.nref ps ep
theorem VL.putC (h : VL K w z H) (F : Fx K w) (kvs' : Cuts) : VL K w { z with kvs := kvs' } (upd H w.c (.dT kvs')) := by
  have hc := h.l.cuts
  have g : Fr [w.c] H (upd H w.c (.dT kvs')) := (Fr.refl _ _).put (by simp)
  obtain ⟨k1, d1⟩ := drFr F.d0 h.k h.d g fun x m => by rw [List.mem_singleton.mp m]; exact F.bc
  have sp : ∀ M : Addr → Prop, Sep M [w.c] H := fun M x m => .inr fun l => by rw [List.mem_singleton.mp m, hc]; intro z; cases z
  have nl : ∀ {x : Addr} {l : List V}, H x = some (.lst l) → x ∉ [w.c] := fun {x l} e => by
    rw [List.mem_singleton]
    exact fun z => by rw [z, hc] at e; cases e
  refine ⟨k1, d1, h.l.putC, fun p hp => ?_, g _ _ (nl h.g) h.g, prd_imp (fun r e q => q.fr g ?_ (fun x m l => ?_)) h.pp, h.nd, h.rb⟩
  · obtain ⟨qs, eq, _⟩ := h.qd p hp
    exact (h.qd p hp).fr g (nl eq) (sp _)
  · obtain ⟨P, h1, _⟩ := q; exact nl h1
  · rw [List.mem_singleton.mp m, hc]; intro z; cases z
/-- a new row of the ledger; N is new -/
theorem VL.row (h : VL K w z H) (F : Fx K w) {P N : Addr} {p : Pq} {i : Int} (hP : H P = some (.tup [.int p.1, .int p.2])) (hN : H N = none) : VL K w { z with rs := z.rs ++ [N], led := z.led ++ [(p, i)] } (upd (upd H N (.lst [.ref P, .int i])) w.G (.lst (z.rs.map V.ref ++ [.ref N]))) := by
  have s1 := same_new (o := .lst [.ref P, .int i]) hN
  have h1 := h.same s1
  have eN : upd H N (.lst [.ref P, .int i]) N = some (.lst [.ref P, .int i]) := upd_same
  have hP1 := s1 _ _ hP
  have bN : w.H0 N = none := by
    obtain ⟨x, y, _, _, es⟩ := h.d.s
    exact h.k.free ⟨_, es⟩ hN
  have im : ∀ x, H x ≠ none → w.M (z.rs ++ [N]) x → w.M z.rs x := fun x n m => by
    rcases m with m | m | m | m
    · exact .inl m
    · exact .inr (.inl m)
    · rcases List.mem_append.mp m with m | m
      · exact .inr (.inr (.inl m))
      · rw [List.mem_singleton.mp m] at n; exact absurd hN n
    · exact .inr (.inr (.inr m))
  have hq : ∀ p ∈ allP w.n, Lol (w.M (z.rs ++ [N])) (upd H N (.lst [.ref P, .int i])) (w.dq p) (z.Q p) := fun p hp => ((h.qd p hp).imp im).same s1
  have nr : N ∉ z.rs := fun m => by
    obtain ⟨_, P', e, _⟩ := row_mem h.pp N m
    rw [e] at hN; cases hN
  generalize upd H N (.lst [.ref P, .int i]) = H1 at h1 eN hP1 hq ⊢
  have hg := h1.g
  have g : Fr [w.G] H1 (upd H1 w.G (.lst (z.rs.map V.ref ++ [.ref N]))) := (Fr.refl _ _).put (by simp)
  obtain ⟨k1, d1⟩ := drFr F.d0 h1.k h1.d g fun x m => by rw [List.mem_singleton.mp m]; exact F.bG
  have tk : ∀ x ∈ [w.G], ∀ l, H1 x ≠ some (.tup l) := fun x m l e => by rw [List.mem_singleton.mp m, hg] at e; cases e
  obtain ⟨n1, n2, n3, n4⟩ := h1.l.nl hg
  refine ⟨k1, d1, h1.l.fr g ?_ ?_ ?_ ?_, fun p hp => (hq p hp).fr g ?_ ?_, by show upd _ _ _ _ = some (.lst (List.map V.ref (z.rs ++ [N]))); rw [upd_same, List.map_append]; rfl, prd_snoc (prd_imp (fun r e q => q.fr g ?_ tk) h1.pp) ?_, ?_, fun r hr => ?_⟩
  · rw [List.mem_singleton]; exact n1.symm
  · rw [List.mem_singleton]; exact n2.symm
  · rw [List.mem_singleton]; exact n3.symm
  · rw [List.mem_singleton]; exact n4.symm
  · rw [List.mem_singleton]; exact (F.gd p hp).symm
  · exact fun x m => .inl (by rw [List.mem_singleton.mp m]; exact .inr (.inl rfl))
  · have nG : N ≠ w.G := fun y => Row.nref (e := (p, i)) ⟨P, eN, hP1⟩ z.rs (by rw [y]; exact hg)
    exact ⟨P, by rw [upd_ne nG]; exact eN, by rw [upd_ne fun y => by rw [y, hg] at hP1; cases hP1]; exact hP1⟩
  · show (z.rs ++ [N]).Nodup
    rw [List.nodup_append]
    exact ⟨h.nd, by simp, fun a ha b hb e => nr (by rw [← List.mem_singleton.mp hb, ← e]; exact ha)⟩
  · rcases List.mem_append.mp hr with hr | hr
    · exact h.rb r hr
    · rw [List.mem_singleton.mp hr]; exact bN
  · rw [List.mem_singleton]; exact fun y => by rw [y] at q; exact q.nref _ hg
/-- a row's number is changed -/
theorem VL.set (h : VL K w z H) (F : Fx K w) {k : Nat} {r P : Addr} {e : Pq × Int} {v : Int} (hr : z.rs[k]? = some r) (he : z.led[k]? = some e) (h1 : H r = some (.lst [.ref P, .int e.2])) (h2 : H P = some (.tup [.int e.1.1, .int e.1.2])) : VL K w { z with led := z.led.set k (e.1, v) } (upd H r (.lst [.ref P, .int v])) := by
  have mr : r ∈ z.rs := List.mem_of_getElem? hr
  have g : Fr [r] H (upd H r (.lst [.ref P, .int v])) := (Fr.refl _ _).put (by simp)
  obtain ⟨k1, d1⟩ := drFr F.d0 h.k h.d g fun x m => by rw [List.mem_singleton.mp m]; exact h.rb r mr
  have rr : Row H r e := ⟨P, h1, h2⟩
  have hg := h.g
  obtain ⟨n1, n2, n3, n4⟩ := h.l.nl h1
  have tk : ∀ x ∈ [r], ∀ l, H x ≠ some (.tup l) := fun x m l e => by rw [List.mem_singleton.mp m, h1] at e; cases e
  have nr : upd H r (.lst [.ref P, .int v]) P = some (.tup [.int e.1.1, .int e.1.2]) := by rw [upd_ne fun y => by rw [y, h1] at h2; cases h2]; exact h2
  have pp : Paired (Row (upd H r (.lst [.ref P, .int v]))) z.rs (z.led.set k (e.1, v)) := by
    have key : ∀ (rs : List Addr) (led : Led) (k : Nat), rs.Nodup → Paired (Row H) rs led → rs[k]? = some r → Paired (Row (upd H r (.lst [.ref P, .int v]))) rs (led.set k (e.1, v)) := by
      intro rs led k nd pp
      induction pp generalizing k with
      | nil => intro h; simp at h
      | @cons a b as bs q qs ih =>
        intro h
        rw [List.nodup_cons] at nd
        cases k with
        | zero =>
          have : a = r := by simpa using h
          subst this
          exact .cons ⟨P, upd_same, nr⟩ (prd_impm (fun x y m q => q.fr g (by rw [List.mem_singleton]; exact fun e => nd.1 (by rw [← e]; exact m)) tk) qs)
        | succ k =>
          have h : as[k]? = some r := by simpa using h
          exact .cons (q.fr g (by rw [List.mem_singleton]; exact fun e => nd.1 (by rw [e]; exact List.mem_of_getElem? h)) tk) (ih k nd.2 h)
    exact key _ _ _ h.nd h.pp hr
  refine ⟨k1, d1, h.l.fr g ?_ ?_ ?_ ?_, fun p hp => (h.qd p hp).fr g ?_ ?_, g _ _ ?_ h.g, pp, h.nd, h.rb⟩
  · rw [List.mem_singleton]; exact n1.symm
  · rw [List.mem_singleton]; exact n2.symm
  · rw [List.mem_singleton]; exact n3.symm
  · rw [List.mem_singleton]; exact n4.symm
  · obtain ⟨qs, eq, _⟩ := h.qd p hp
    rw [List.mem_singleton]; exact fun y => rr.nref qs (by rw [← y]; exact eq)
  · exact fun x m => .inl (by rw [List.mem_singleton.mp m]; exact .inr (.inr (.inl mr)))
  · rw [List.mem_singleton]; exact fun y => rr.nref _ (by rw [← y]; exact hg)
end
/-! what is counted -/
def ltr (k : Nat) (s : Int) : List Int := [(k : Int) / 7, (k : Int) % 7, s]
theorem ltr_inj {k j : Nat} {s t : Int} (h : ltr k s = ltr j t) : k = j := by
  unfold ltr at h
  injection h with h1 h2
  injection h2 with h2 _
  omega
structure Iv (n : Int) (z : Vs) : Prop where
  own : ∀ p ∈ allP n, ∀ c ∈ z.Q p, ∃ k e, z.led[k]? = some e ∧ e.1 = p ∧ c = ltr k p.1
  cnt : ∀ k e, z.led[k]? = some e → e.1 ∈ allP n ∧ e.2 = (((z.Q e.1).count (ltr k e.1.1) : Nat) : Int)
  bal : z.tt.1 + z.tt.2.2.1 = z.tt.2.1 + z.tt.2.2.2 + sumL (allP n) z.Q
  snt : z.tt.1 = ((z.led.length : Nat) : Int)
theorem app_get {α : Type} {l : List α} {x e : α} {k : Nat} (h : (l ++ [x])[k]? = some e) : l[k]? = some e ∨ (k = l.length ∧ e = x) := by
  by_cases q : k < l.length
  · rw [List.getElem?_append_left q] at h; exact .inl h
  · rw [List.getElem?_append_right (by omega)] at h
    have h2 := (List.getElem?_eq_some_iff.mp h).1
    simp at h2
    have e2 : k = l.length := by omega
    subst e2
    simp at h
    exact .inr ⟨rfl, h.symm⟩
theorem get_app {α : Type} {l : List α} {x e : α} {k : Nat} (h : l[k]? = some e) : (l ++ [x])[k]? = some e := by
  rw [List.getElem?_append_left (List.getElem?_eq_some_iff.mp h).1]; exact h
section
variable {n : Int} {z : Vs} {p : Pq}
theorem Iv.no (h : Iv n z) (hp : p ∈ allP n) {k : Nat} (hk : z.led.length ≤ k) {s : Int} : (z.Q p).count (ltr k s) = 0 := by
  refine List.count_eq_zero.mpr fun m => ?_
  obtain ⟨j, e, h1, _, h2⟩ := h.own p hp _ m
  have := ltr_inj h2
  have := (List.getElem?_eq_some_iff.mp h1).1
  omega
theorem Iv.lost (h : Iv n z) (hp : p ∈ allP n) (rs : List Addr) : Iv n { z with tt := (z.tt.1 + 1, z.tt.2.1, z.tt.2.2.1, z.tt.2.2.2 + 1), rs := rs, led := z.led ++ [(p, 0)] } := by
  refine ⟨fun q hq c hc => ?_, fun k e he => ?_, ?_, ?_⟩
  · obtain ⟨k, e, h1, h2⟩ := h.own q hq c hc
    exact ⟨k, e, get_app h1, h2⟩
  · rcases app_get he with he | ⟨hk, he⟩
    · exact h.cnt k e he
    · subst he hk
      exact ⟨hp, by show (0 : Int) = _; rw [h.no hp (Nat.le_refl _)]; rfl⟩
  · have := h.bal
    show z.tt.1 + 1 + z.tt.2.2.1 = z.tt.2.1 + (z.tt.2.2.2 + 1) + sumL (allP n) z.Q
    omega
  · have := h.snt
    show z.tt.1 + 1 = (((z.led ++ [(p, 0)]).length : Nat) : Int)
    rw [List.length_append, List.length_singleton]; omega
theorem Iv.sent (h : Iv n z) (hp : p ∈ allP n) (rs : List Addr) : Iv n { z with tt := (z.tt.1 + 1, z.tt.2.1, z.tt.2.2.1, z.tt.2.2.2), Q := updQ z.Q p (z.Q p ++ [ltr z.led.length p.1]), rs := rs, led := z.led ++ [(p, 1)] } := by
  refine ⟨fun q hq c hc => ?_, fun k e he => ?_, ?_, ?_⟩
  · have hc : c ∈ updQ z.Q p (z.Q p ++ [ltr z.led.length p.1]) q := hc
    by_cases eq : q = p
    · subst eq
      rw [updQ_at] at hc
      rcases List.mem_append.mp hc with hc | hc
      · obtain ⟨k, e, h1, h2⟩ := h.own q hq c hc
        exact ⟨k, e, get_app h1, h2⟩
      · exact ⟨z.led.length, (q, 1), by simp, rfl, List.mem_singleton.mp hc⟩
    · rw [updQ_ne eq] at hc
      obtain ⟨k, e, h1, h2⟩ := h.own q hq c hc
      exact ⟨k, e, get_app h1, h2⟩
  · show _ ∧ e.2 = (((updQ z.Q p (z.Q p ++ [ltr z.led.length p.1]) e.1).count (ltr k e.1.1) : Nat) : Int)
    rcases app_get he with he | ⟨hk, he⟩
    · obtain ⟨g1, g2⟩ := h.cnt k e he
      refine ⟨g1, ?_⟩
      by_cases eq : e.1 = p
      · rw [eq, updQ_at, List.count_append, List.count_singleton, if_neg (by
          have := (List.getElem?_eq_some_iff.mp he).1
          intro q
          have := ltr_inj (by simpa using q)
          omega), g2, eq]
        omega
      · rw [updQ_ne eq]; exact g2
    · subst he hk
      refine ⟨hp, ?_⟩
      show (1 : Int) = (((updQ z.Q p _ p).count _ : Nat) : Int)
      rw [updQ_at, List.count_append, h.no hp (Nat.le_refl _), List.count_singleton]
      simp
  · have := h.bal
    show z.tt.1 + 1 + z.tt.2.2.1 = z.tt.2.1 + z.tt.2.2.2 + sumL (allP n) (updQ z.Q p _)
    rw [sumL_upd (ps := allP n) (preP_nodup _ _) hp, List.length_append, List.length_singleton]
    omega
  · have := h.snt
    show z.tt.1 + 1 = (((z.led ++ [(p, 1)]).length : Nat) : Int)
    rw [List.length_append, List.length_singleton]; omega
/-- one more, or one less, of a letter -/
theorem Iv.chg (h : Iv n z) (hp : p ∈ allP n) {k : Nat} {e : Pq × Int} {v : Lts} {dl : Int} {tt' : Tot} (he : z.led[k]? = some e) (e1 : e.1 = p) (own : ∀ c ∈ v, c ∈ z.Q p) (hc : ∀ c, ((v.count c : Nat) : Int) = (((z.Q p).count c : Nat) : Int) + if ltr k p.1 = c then dl else 0)
    (bal : tt'.1 + tt'.2.2.1 = tt'.2.1 + tt'.2.2.2 + (sumL (allP n) z.Q + ((v.length : Nat) : Int) - (((z.Q p).length : Nat) : Int))) (snt : tt'.1 = z.tt.1) : Iv n { z with tt := tt', Q := updQ z.Q p v, led := z.led.set k (e.1, e.2 + dl) } := by
  have lk := (List.getElem?_eq_some_iff.mp he).1
  have keep : ∀ {j : Nat} {f : Pq × Int}, z.led[j]? = some f → ∃ f', (z.led.set k (e.1, e.2 + dl))[j]? = some f' ∧ f'.1 = f.1 := fun {j f} hf => by
    rw [List.getElem?_set]
    by_cases q : k = j
    · subst q
      rw [he] at hf
      cases (Option.some.inj hf)
      rw [if_pos rfl, if_pos lk]
      exact ⟨_, rfl, rfl⟩
    · rw [if_neg q]; exact ⟨f, hf, rfl⟩
  refine ⟨fun q hq c hc => ?_, fun j f hf => ?_, ?_, ?_⟩
  · have hc : c ∈ updQ z.Q p v q := hc
    have hc : c ∈ z.Q q := by
      by_cases eq : q = p
      · subst eq; rw [updQ_at] at hc; exact own c hc
      · rw [updQ_ne eq] at hc; exact hc
    obtain ⟨k, f, h1, h2, h3⟩ := h.own q hq c hc
    obtain ⟨f', g1, g2⟩ := keep h1
    exact ⟨k, f', g1, by rw [g2]; exact h2, h3⟩
  · show _ ∧ f.2 = (((updQ z.Q p v f.1).count (ltr j f.1.1) : Nat) : Int)
    have hf : (z.led.set k (e.1, e.2 + dl))[j]? = some f := hf
    rw [List.getElem?_set] at hf
    by_cases q : k = j
    · subst q
      rw [if_pos rfl, if_pos lk] at hf
      cases (Option.some.inj hf)
      obtain ⟨g1, g2⟩ := h.cnt k e he
      refine ⟨g1, ?_⟩
      show e.2 + dl = (((updQ z.Q p v e.1).count _ : Nat) : Int)
      rw [e1, updQ_at, hc, if_pos rfl, g2, e1]
    · rw [if_neg q] at hf
      obtain ⟨g1, g2⟩ := h.cnt j f hf
      refine ⟨g1, ?_⟩
      by_cases eq : f.1 = p
      · rw [eq, updQ_at, hc, if_neg fun y => q (ltr_inj y), g2, eq]; omega
      · rw [updQ_ne eq]; exact g2
  · show tt'.1 + tt'.2.2.1 = tt'.2.1 + tt'.2.2.2 + sumL (allP n) (updQ z.Q p v)
    rw [sumL_upd (ps := allP n) (preP_nodup _ _) hp]; exact bal
  · show tt'.1 = (((z.led.set k _).length : Nat) : Int)
    rw [List.length_set, snt]; exact h.snt
/-- the order alone is changed -/
theorem Iv.ord (h : Iv n z) (hp : p ∈ allP n) {v : Lts} (hc : ∀ c, v.count c = (z.Q p).count c) (hl : v.length = (z.Q p).length) : Iv n { z with Q := updQ z.Q p v } := by
  have own : ∀ c ∈ v, c ∈ z.Q p := fun c m => List.count_pos_iff.mp (by rw [← hc]; exact List.count_pos_iff.mpr m)
  refine ⟨fun q hq c m => ?_, fun j f hf => ?_, ?_, h.snt⟩
  · have m : c ∈ updQ z.Q p v q := m
    refine h.own q hq c ?_
    by_cases eq : q = p
    · subst eq; rw [updQ_at] at m; exact own c m
    · rw [updQ_ne eq] at m; exact m
  · show _ ∧ f.2 = (((updQ z.Q p v f.1).count (ltr j f.1.1) : Nat) : Int)
    obtain ⟨g1, g2⟩ := h.cnt j f hf
    refine ⟨g1, ?_⟩
    by_cases eq : f.1 = p
    · rw [eq, updQ_at, hc, g2, eq]
    · rw [updQ_ne eq]; exact g2
  · show z.tt.1 + z.tt.2.2.1 = z.tt.2.1 + z.tt.2.2.2 + sumL (allP n) (updQ z.Q p v)
    rw [sumL_upd (ps := allP n) (preP_nodup _ _) hp, h.bal, hl]; omega
end
theorem e_tDGet {td ty : TE} {σ : L2.St} {H : Hp} {Q : VK} (q : td σ H fun x H1 => ty σ H1 fun y H2 => ∃ a v, x = .ref a ∧ DGet H2 a y (some v) ∧ Q v H2) : tDGet td ty σ H Q := q
theorem e_sDAug {td ty tv : TE} {rd : V → V → Hp → VK → Prop} {D : Ends} {σ : L2.St} {H : Hp} (q : td σ H fun x H1 => ty σ H1 fun y H2 => ∃ a v, x = .ref a ∧ DGet H2 a y (some v) ∧ tv σ H2 fun y2 H3 => rd v y2 H3 fun z H4 => ∃ H5, DPut H4 a y z H5 ∧ D.nx σ H5) : sDAug td ty tv rd D σ H := q
theorem e_tDelL {to ti : TE} {D : Ends} {σ : L2.St} {H : Hp} (q : to σ H fun x H1 => ti σ H1 fun y H2 => ∃ (l : Addr) (xs : List V) (i : Int) (k : Nat), x = .ref l ∧ y = .int i ∧ H2 l = some (.lst xs) ∧ -(2 ^ 63) ≤ i ∧ i < 2 ^ 63 ∧ seqIndex? i xs.length = some k ∧ D.nx σ (upd H2 l (.lst (xs.eraseIdx k)))) : tDelL to ti D σ H := q
theorem e_tLockE {t : TE} {σ : L2.St} {H : Hp} {Q : VK} (q : ∃ d u, H d = some u ∧ Mut (some u) ∧ ∀ od, t σ (upd H d (.frz od u)) fun v H' => H' d = some (.frz od u) ∧ Q v (upd H' d u)) : tLockE t σ H Q := q
theorem e_iValsT {td : TE} {σ : L2.St} {H : Hp} {R : It → Hp → Prop} (q : td σ H fun x H1 => ∃ d o kvs, x = .ref d ∧ H1 d = some (.frz o (.dT kvs)) ∧ R (Itdt d o kvs) H1) : iValsT td σ H R := q
theorem e_iKeys {td : TE} {σ : L2.St} {H : Hp} {R : It → Hp → Prop} (q : td σ H fun x H1 => ∃ d o, x = .ref d ∧ ((∃ kvs, H1 d = some (.frz o (.dK kvs)) ∧ R (Itk d o kvs) H1) ∨ ∃ kvs, H1 d = some (.frz o (.dT kvs)) ∧ R (Itkt d o kvs) H1)) : iKeys td σ H R := q
theorem e_tLock {t : TS} {D : Ends} {σ : L2.St} {H : Hp} (q : ∃ d u, H d = some u ∧ Mut (some u) ∧ ∀ od, t ⟨fun σ' H' => H' d = some (.frz od u) ∧ D.nx σ' (upd H' d u), fun v H' => H' d = some (.frz od u) ∧ D.rt v (upd H' d u), fun σ' H' => H' d = some (.frz od u) ∧ D.bk σ' (upd H' d u), fun σ' H' => H' d = some (.frz od u) ∧ D.ct σ' (upd H' d u)⟩ σ (upd H d (.frz od u))) : tLock t D σ H := q
abbrev sp5 (R : V → V → V → V → V → Hp → VK → Prop) : Sp := fun vs H Q _ => ∃ a b c d e, vs = [a, b, c, d, e] ∧ R a b c d e H Q
abbrev sp7 (R : V → V → V → V → V → V → V → Hp → VK → Prop) : Sp := fun vs H Q _ => ∃ a b c d e f g, vs = [a, b, c, d, e, f, g] ∧ R a b c d e f g H Q
abbrev sp8 (R : V → V → V → V → V → V → V → V → Hp → VK → Prop) : Sp := fun vs H Q _ => ∃ a b c d e f g h, vs = [a, b, c, d, e, f, g, h] ∧ R a b c d e f g h H Q
abbrev sp6 (R : V → V → V → V → V → V → Hp → VK → Prop) : Sp := fun vs H Q _ => ∃ a b c d e f, vs = [a, b, c, d, e, f] ∧ R a b c d e f H Q
def sp_Lines___init__ (K : PySem.W.Frag) : Sp := sp2 fun x y H Q => ∃ (a dx : Addr) (n : Int), x = .ref a ∧ y = .int n ∧ H a = some (.ins (cLin K) dx []) ∧ 1 ≤ n ∧ n ≤ 9 ∧
  ∀ (H' : Hp) (c t q : Addr) (dq : Pq → Addr), (∀ b, b ≠ a → ∀ o, H b = some o → H' b = some o) → H c = none → H t = none → H q = none → LnQ K H' a n c t q [] (0, 0, 0, 0) (allP n) dq →
    (∀ p ∈ allP n, H (dq p) = none ∧ H' (dq p) = some (.lst [])) → (∀ p p', p ∈ allP n → p' ∈ allP n → dq p = dq p' → p = p') → Q .non H'
def sp_Lines_is_joined (K : PySem.W.Frag) : Sp := sp3 fun x y z H Q => ∃ (a c : Addr) (n : Int) (kvs : Cuts) (p q : Int), x = .ref a ∧ y = .int p ∧ z = .int q ∧ Ln K H a n c kvs ∧ ∀ H', Same H H' → Q (.bl (!cutB kvs p q)) H'
def sp_Lines_cut (K : PySem.W.Frag) : Sp := sp3 fun x y z H Q => ∃ (a c : Addr) (n : Int) (kvs : Cuts) (p q : Int), x = .ref a ∧ y = .int p ∧ z = .int q ∧ Ln K H a n c kvs ∧ kvs.length ≤ 1000 ∧ ∀ H1, Same H H1 → Q .non (upd H1 c (.dT (putK kvs (keyL p q) (.bl true))))
def sp_Lines_join (K : PySem.W.Frag) : Sp := sp3 fun x y z H Q => ∃ (a c : Addr) (n : Int) (kvs : Cuts) (p q : Int), x = .ref a ∧ y = .int p ∧ z = .int q ∧ Ln K H a n c kvs ∧
  ∀ (H1 : Hp) (kvs' : Cuts), Same H H1 → kvs'.length ≤ kvs.length → (∀ j, (valV kvs' j).isSome = if j = keyL p q then false else (valV kvs j).isSome) → Q .non (upd H1 c (.dT kvs'))
def sp_Lines_send (K : PySem.W.Frag) : Sp := sp4 fun x y z u H Q => ∃ (a c t q : Addr) (n : Int) (kvs : Cuts) (tt : Tot) (ps : List Pq) (dq : Pq → Addr) (s r : Int) (D : Addr) (ds : List Int) (M : Addr → Prop) (ls : Lts),
  x = .ref a ∧ y = .int s ∧ z = .int r ∧ u = .ref D ∧ LnQ K H a n c t q kvs tt ps dq ∧ (s, r) ∈ ps ∧ Lol M H (dq (s, r)) ls ∧ SqL K H D (ds.map V.int) ∧ H D = some (.lst (ds.map V.int)) ∧ ls.length ≤ 1000 ∧ M (dq (s, r)) ∧ (∀ x, M x → H x ≠ none) ∧
  (cutB kvs s r = true → ∀ H', Fr [t] H H' → LnQ K H' a n c t q kvs (tt.1 + 1, tt.2.1, tt.2.2.1, tt.2.2.2 + 1) ps dq → Q (.bl false) H') ∧
  (cutB kvs s r = false → ∀ H', Fr [t, dq (s, r)] H H' → LnQ K H' a n c t q kvs (tt.1 + 1, tt.2.1, tt.2.2.1, tt.2.2.2) ps dq → Lol M H' (dq (s, r)) (ls ++ [ds]) → Q (.bl true) H')
def sp_Lines_waiting (K : PySem.W.Frag) : Sp := sp3 fun x y z H Q => ∃ (a c t q : Addr) (n : Int) (kvs : Cuts) (tt : Tot) (ps : List Pq) (dq : Pq → Addr) (s r : Int) (M : Addr → Prop) (ls : Lts),
  x = .ref a ∧ y = .int s ∧ z = .int r ∧ LnQ K H a n c t q kvs tt ps dq ∧ (s, r) ∈ ps ∧ Lol M H (dq (s, r)) ls ∧ ls.length ≤ 1000 ∧
  ∀ (D : Addr) (qs : List Addr) (H' : Hp), Same H H' → H D = none → H' D = some (.lst (qs.map V.ref)) → Paired (fun p (c : List Int) => p ≠ D ∧ H p = none ∧ H' p = some (.lst (c.map V.int))) qs ls → Q (.ref D) H'
def sp_Lines_take (K : PySem.W.Frag) : Sp := sp4 fun x y z u H Q => ∃ (a c t q : Addr) (n : Int) (kvs : Cuts) (tt : Tot) (ps : List Pq) (dq : Pq → Addr) (s r i : Int) (M : Addr → Prop) (ls : Lts),
  x = .ref a ∧ y = .int s ∧ z = .int r ∧ u = .int i ∧ LnQ K H a n c t q kvs tt ps dq ∧ (s, r) ∈ ps ∧ Lol M H (dq (s, r)) ls ∧ ls.length ≤ 1000 ∧ M (dq (s, r)) ∧
  ((cutB kvs s r || !spot i ls.length) = true → ∀ H', Same H H' → Q .non H') ∧
  ((cutB kvs s r || !spot i ls.length) = false → ∀ (H' : Hp) (L : Addr) (e : List Int), Fr [t, dq (s, r)] H H' → LnQ K H' a n c t q kvs (tt.1, tt.2.1 + 1, tt.2.2.1, tt.2.2.2) ps dq → Lol M H' (dq (s, r)) (ls.eraseIdx i.toNat) → ls[i.toNat]? = some e → ¬ M L → H' L = some (.lst (e.map V.int)) → Q (.ref L) H')
def sp_Lines_drop (K : PySem.W.Frag) : Sp := sp4 fun x y z u H Q => ∃ (a c t q : Addr) (n : Int) (kvs : Cuts) (tt : Tot) (ps : List Pq) (dq : Pq → Addr) (s r i : Int) (M : Addr → Prop) (ls : Lts),
  x = .ref a ∧ y = .int s ∧ z = .int r ∧ u = .int i ∧ LnQ K H a n c t q kvs tt ps dq ∧ (s, r) ∈ ps ∧ Lol M H (dq (s, r)) ls ∧ ls.length ≤ 1000 ∧ M (dq (s, r)) ∧
  (spot i ls.length = false → ∀ H', Same H H' → Q (.bl false) H') ∧
  (spot i ls.length = true → ∀ (H' : Hp), Fr [t, dq (s, r)] H H' → LnQ K H' a n c t q kvs (tt.1, tt.2.1, tt.2.2.1, tt.2.2.2 + 1) ps dq → Lol M H' (dq (s, r)) (ls.eraseIdx i.toNat) → Q (.bl true) H')
def sp_Lines_double (K : PySem.W.Frag) : Sp := sp4 fun x y z u H Q => ∃ (a c t q : Addr) (n : Int) (kvs : Cuts) (tt : Tot) (ps : List Pq) (dq : Pq → Addr) (s r i : Int) (M : Addr → Prop) (ls : Lts),
  x = .ref a ∧ y = .int s ∧ z = .int r ∧ u = .int i ∧ LnQ K H a n c t q kvs tt ps dq ∧ (s, r) ∈ ps ∧ Lol M H (dq (s, r)) ls ∧ ls.length ≤ 1000 ∧ M (dq (s, r)) ∧ (∀ x, M x → H x ≠ none) ∧
  (spot i ls.length = false → ∀ H', Same H H' → Q (.bl false) H') ∧
  (spot i ls.length = true → ∀ (H' : Hp) (e : List Int), Fr [t, dq (s, r)] H H' → LnQ K H' a n c t q kvs (tt.1, tt.2.1, tt.2.2.1 + 1, tt.2.2.2) ps dq → ls[i.toNat]? = some e → Lol M H' (dq (s, r)) (ls ++ [e]) → Q (.bl true) H')
def sp_Lines_swap (K : PySem.W.Frag) : Sp := sp4 fun x y z u H Q => ∃ (a c t q : Addr) (n : Int) (kvs : Cuts) (tt : Tot) (ps : List Pq) (dq : Pq → Addr) (s r i : Int) (M : Addr → Prop) (ls : Lts),
  x = .ref a ∧ y = .int s ∧ z = .int r ∧ u = .int i ∧ LnQ K H a n c t q kvs tt ps dq ∧ (s, r) ∈ ps ∧ Lol M H (dq (s, r)) ls ∧ ls.length ≤ 1000 ∧ M (dq (s, r)) ∧
  ((spot i ls.length && spot (i + 1) ls.length) = false → ∀ H', Same H H' → Q (.bl false) H') ∧
  ((spot i ls.length && spot (i + 1) ls.length) = true → ∀ (H' : Hp) (e f : List Int), Fr [dq (s, r)] H H' → LnQ K H' a n c t q kvs tt ps dq → ls[i.toNat]? = some e → ls[i.toNat + 1]? = some f → Lol M H' (dq (s, r)) ((ls.set i.toNat f).set (i.toNat + 1) e) → Q (.bl true) H')
def sp_Lines__waits (K : PySem.W.Frag) : Sp := sp4 fun x y z u H Q => ∃ (a c t q : Addr) (n : Int) (kvs : Cuts) (tt : Tot) (ps : List Pq) (dq : Pq → Addr) (s r i : Int) (M : Addr → Prop) (ls : Lts),
  x = .ref a ∧ y = .int s ∧ z = .int r ∧ u = .int i ∧ LnQ K H a n c t q kvs tt ps dq ∧ (s, r) ∈ ps ∧ Lol M H (dq (s, r)) ls ∧ ∀ H', Same H H' → Q (.bl (spot i ls.length)) H'
def sp_Lines_total (K : PySem.W.Frag) : Sp := sp2 fun x y H Q => ∃ (a c t q : Addr) (n : Int) (kvs : Cuts) (tt : Tot) (ps : List Pq) (dq : Pq → Addr) (w : Str),
  x = .ref a ∧ y = .str w ∧ LnQ K H a n c t q kvs tt ps dq ∧ ps.length ≤ 1000 ∧
  ((w = "waiting" ∧ ∃ (M : Addr → Prop) (Qf : Pq → Lts), (∀ p ∈ ps, Lol M H (dq p) (Qf p)) ∧ ∀ H', Same H H' → Q (.int (sumL ps Qf)) H') ∨ (w ≠ "waiting" ∧ ∃ v, valV (totV tt) (.inr w) = some v ∧ Q v H))
def sp_line (K : PySem.W.Frag) : Sp := sp2 fun x y H Q => ∃ p q : Int, x = .int p ∧ y = .int q ∧ ∀ (T : Addr) (H' : Hp), Same H H' → H' T = some (.tup [.int (mn p q), .int (mx p q)]) → Q (.ref T) H'
def sp_law_balanced (K : PySem.W.Frag) : Sp := sp1 fun l H R => ∃ (w : Wp) (z : Vs), l = .ref w.a ∧ Fx K w ∧ VL K w z H ∧ Iv w.n z ∧ ∀ H', Same H H' → R (.bl true) H'
def sp_law_sent (K : PySem.W.Frag) : Sp := sp4 fun l g s r H R => ∃ (w : Wp) (z : Vs) (x y : Int), l = .ref w.a ∧ g = .ref w.G ∧ s = .int x ∧ r = .int y ∧ Fx K w ∧ VL K w z H ∧ Iv w.n z ∧ (x, y) ∈ allP w.n ∧ (z.Q (x, y)).length ≤ 900 ∧ z.led.length ≤ 900 ∧
  ∀ (H' : Hp) (z' : Vs), VL K w z' H' → Iv w.n z' → z'.kvs = z.kvs → (∀ p, (z'.Q p).length ≤ (z.Q p).length + 1) → z'.led.length ≤ z.led.length + 1 → R .non H'
def sp_law_number (K : PySem.W.Frag) : Sp := sp2 fun d s H R => ∃ (L : Addr) (k : Nat) (x : Int), d = .ref L ∧ s = .int x ∧ H L = some (.lst ((ltr k x).map V.int)) ∧ R (.int (k : Nat)) H
def sp_law_counted (K : PySem.W.Frag) : Sp := sp6 fun l g s r i o H R => ∃ (w : Wp) (z : Vs) (x y k : Int) (v : Str), l = .ref w.a ∧ g = .ref w.G ∧ s = .int x ∧ r = .int y ∧ i = .int k ∧ o = .str v ∧ Fx K w ∧ VL K w z H ∧ Iv w.n z ∧ (x, y) ∈ allP w.n ∧ (z.Q (x, y)).length ≤ 900 ∧ z.led.length ≤ 900 ∧ -10000 < k ∧ k < 10000 ∧
  (v = "take" ∨ v = "drop" ∨ v = "double" ∨ v = "swap") ∧
  ∀ (H' : Hp) (z' : Vs), VL K w z' H' → Iv w.n z' → z'.kvs = z.kvs → (∀ p, (z'.Q p).length ≤ (z.Q p).length + 1) → z'.led.length = z.led.length → (∀ p, p ≠ (x, y) → z'.Q p = z.Q p) →
    (v = "take" → cutB z.kvs x y = false → spot k (z.Q (x, y)).length = true → (z'.Q (x, y)).length + 1 = (z.Q (x, y)).length) → R (.bl true) H'
def sp_law_emptied (K : PySem.W.Frag) : Sp := sp5 fun l g s r m H R => ∃ (w : Wp) (z : Vs), l = .ref w.a ∧ g = .ref w.G ∧ s = .ref w.st ∧ r = .ref w.sc ∧ m = .int w.n ∧ Fx K w ∧ VL K w z H ∧ Iv w.n z ∧ (∀ p, (z.Q p).length ≤ 100) ∧ z.led.length ≤ 900 ∧
  ∀ (H' : Hp) (z' : Vs), VL K w z' H' → Iv w.n z' → (∀ p ∈ allP w.n, z'.Q p = []) → z'.led.length = z.led.length → R (.bl true) H'
def sp_law (K : PySem.W.Frag) : Sp := sp1 fun a H Q => ∃ (sa : Addr) (ns : List Int), a = .ref sa ∧ SqL K H sa (ns.map V.int) ∧ ns.length ≤ 63 ∧ ∀ H', Q (.bl true) H'
local macro_rules | `(tactic| walk_at "dr") => `(tactic| first
  | assumption
  | exact Dr.same (by assumption) (same_new (by assumption))
  | exact Dr.same (Dr.same (by assumption) (same_new (by assumption))) (same_new (by assumption)))
local macro_rules | `(tactic| walk_at "ar") => `(tactic| first | omega | (simp only [List.length_cons, List.length_nil, List.length_map, List.length_append]; omega) | (simp only [List.length_cons, List.length_nil, List.length_map, List.length_append] at *; omega) | decide | assumption)
local macro_rules | `(tactic| walk_at "sl") => `(tactic| first
  | exact Dr.seq (by assumption)
  | assumption
  | exact SqL.of (by assumption)
  | exact SqL.of upd_same)
local macro_rules | `(tactic| walk_at "slt") => `(tactic| first
  | assumption
  | exact SqT.of (by assumption)
  | exact SqT.of upd_same)
local macro_rules | `(tactic| walk_at "size") => `(tactic| first
  | assumption
  | (refine sz_of ?_; first | decide | omega | (simp only [List.length_cons, List.length_nil, List.length_map, List.length_append] at *; omega)))
local macro_rules | `(tactic| walk_at "seq") => `(tactic| first
  | assumption
  | exact .inl (Dr.seq (by assumption))
  | exact .inl (by assumption)
  | exact .inl (SqL.of (by assumption))
  | exact .inr (by assumption)
  | exact .inr (SqT.of (by assumption)))
local macro_rules | `(tactic| walk_at "cond") => `(tactic| first
  | ((with_reducible show CMul _ _); first | exact .inr ⟨by decide, by decide⟩ | exact .inl ⟨by decide, by decide⟩ | exact .inr ⟨by omega, by omega⟩ | exact .inl ⟨by omega, by omega⟩)
  | ((with_reducible show CDivW _ _); first | exact ⟨by decide, by decide⟩ | exact wide_div (b := 60) (by omega) (by omega) (by decide) (by decide))
  | ((with_reducible show CDiv _ _); first | exact ⟨by decide, by decide⟩ | exact ⟨by omega, by omega⟩)
  | ((with_reducible show CPow _ _); exact ⟨by decide, by decide, by decide⟩)
  | (show (0 : Int) < _; first | decide | omega)
  | (show (0 : Int) ≤ _; first | decide | omega))
local macro_rules | `(tactic| walk_at "st1") => `(tactic| first
  | ((with_reducible show tVar _ _ _ _); refine e_var rfl ?_)
  | ((with_reducible show tC _ _ _ _); refine e_c ?_)
  | ((with_reducible show tOp _ _ _ _ _ _); refine e_op ?_)
  | ((with_reducible show rI0 _ _ _ _ _); refine e_I0 ?_)
  | ((with_reducible show rI _ _ _ _ _ _); refine e_I (by walk_at "cond") ?_)
  | ((with_reducible show rEq (V.int _) (V.int _) _ _); refine e_eqI ?_)
  | ((with_reducible show rNe (V.int _) (V.int _) _ _); refine e_neI ?_)
  | ((with_reducible show rEq (V.str _) (V.str _) _ _); refine e_eqS ?_)
  | ((with_reducible show rNe (V.str _) (V.str _) _ _); refine e_neS ?_)
  | ((with_reducible show rEq (V.bl _) (V.bl _) _ _); refine e_eqB ?_)
  | ((with_reducible show rNe (V.bl _) (V.bl _) _ _); refine e_neB ?_)
  | ((with_reducible show rEq _ _ _ _); refine e_eq rfl ?_)
  | ((with_reducible show rNe _ _ _ _); refine e_ne rfl ?_)
  | ((with_reducible show tTest _ _ _ _); refine e_test ?_)
  | ((with_reducible show tB _ _ _ _); refine e_B ?_)
  | ((with_reducible show ∃ k, V.bl _ = V.bl k ∧ _); refine e_ex ?_)
  | ((with_reducible show ∃ k, V.int _ = V.int k ∧ _); refine e_exI ?_)
  | ((with_reducible show tAnd _ _ _ _ _); refine e_and ?_)
  | ((with_reducible show tOr _ _ _ _ _); refine e_or ?_)
  | ((with_reducible show tNot _ _ _ _); refine e_not ?_)
  | ((with_reducible show tYes _ _ _); refine e_yes ?_))
local macro_rules | `(tactic| walk_at "st2") => `(tactic| first
  | ((with_reducible show tAndV _ _ _ _ _); refine e_andV ?_)
  | ((with_reducible show tOrV _ _ _ _ _); refine e_orV ?_)
  | ((with_reducible show tNotV _ _ _ _); refine e_notV ?_)
  | ((with_reducible show tIf _ _ _ _ _ _); refine e_if ?_)
  | ((with_reducible show tChain _ _ _ _ _ _ _ _); refine e_chain ?_)
  | ((with_reducible show tSeq _ _ _ _ _); refine e_seq ?_)
  | ((with_reducible show tNext _ _ _); refine e_next ?_)
  | ((with_reducible show tBreak _ _ _); refine e_break ?_)
  | ((with_reducible show tCont _ _ _); refine e_cont ?_)
  | ((with_reducible show tDrop _ _ _ _); refine e_drop ?_)
  | ((with_reducible show tRet _ _ _ _); refine e_ret ?_)
  | ((with_reducible show tRetN _ _ _); refine e_retN ?_)
  | ((with_reducible show tIfS _ _ _ _ _ _); refine e_ifS ?_)
  | ((with_reducible show tAsg _ _ _ _ _); refine e_asg ?_)
  | ((with_reducible show gName _ _ _ _ _); refine e_name ?_)
  | ((with_reducible show gSub _ _ _ _ _ _ _); refine e_sub ?_)
  | ((with_reducible show tNil _ _ _); refine e_nil ?_)
  | ((with_reducible show tCons _ _ _ _ _); refine e_cons ?_)
  | ((with_reducible show tCall _ _ _ _ _ _ _); refine e_call ?_)
  | ((with_reducible show tCB _ _ _ _ _); refine e_CB ?_)
  | ((with_reducible show tTup _ _ _ _); refine e_tup ?_)
  | ((with_reducible show tLst _ _ _ _); refine e_lst ?_)
  | ((with_reducible show tSl _ _ _ _ _ _ _); refine e_sl ?_)
  | ((with_reducible show tNoPart _ _ _); refine e_noP ?_)
  | ((with_reducible show tPart _ _ _ _); refine e_part ?_)
  | ((with_reducible show tBM _ _ _ _ _ _ _ _); refine e_bm ?_)
  | ((with_reducible show tFor _ _ _ _ _ _); refine e_for ?_)
  | ((with_reducible show iList _ _ _ _ _); refine e_iList ?_)
  | ((with_reducible show iTup _ _ _ _ _); refine e_iTup ?_)
  | ((with_reducible show iStr _ _ _ _); refine e_iStr ?_)
  | ((with_reducible show iRng1 _ _ _ _); refine e_iRng1 ?_)
  | ((with_reducible show iRng2 _ _ _ _); refine e_iRng2 ?_)
  | ((with_reducible show (∃ i', [V.int _] = [V.int i'] ∧ _) ∨ ∃ k, [V.int _] = [V.bl k] ∧ _); refine Or.inl ⟨_, rfl, ?_⟩)
  | ((with_reducible show ∃ p ys, [V.ref _] = [V.ref p] ∧ (SqL _ _ p ys ∨ SqT _ _ p ys) ∧ _); refine ⟨_, _, rfl, (by walk_at "seq"), ?_⟩)
  | ((with_reducible show tLc _ _ _ _ _ _ _ _); refine e_lc ?_)
  | ((with_reducible show tM0 _ _ _ _ _); refine e_m0 ?_)
  | ((with_reducible show tM1 _ _ _ _ _ _); refine e_m1 ?_)
  | ((with_reducible show ∃ k, V.str _ = V.str k ∧ _); refine e_exS ?_)
  | ((with_reducible show ∃ k, V.ref _ = V.ref k ∧ (∃ xs, SqL _ _ k xs) ∧ _); refine e_exR (by walk_at "sl") ?_)
  | ((with_reducible show ∃ k, V.ref _ = V.ref k ∧ (∃ xs, SqT _ _ k xs) ∧ _); refine e_exRT (by walk_at "slt") ?_)
  | ((with_reducible show ∃ j, [V.int _] = [V.int j] ∧ _ ≤ j ∧ j < _ ∧ _); refine e_rng1 (by omega) (by omega) ?_)
  | ((with_reducible show ∃ i j, [V.int _, V.int _] = [V.int i, V.int j] ∧ _ ∧ _); refine e_rng2 (by omega) ?_)
  | ((with_reducible show ∃ z', [V.str _] = [V.str z'] ∧ z'.length ≤ sizeLine ∧ _); refine ⟨_, rfl, (by walk_at "size"), ?_⟩)
  | ((with_reducible show (∃ a, V.str _ = V.str a) ∧ _); refine ⟨⟨_, rfl⟩, ?_⟩)
  | ((with_reducible show rSlS (V.str _) _ _ _ _); refine e_slS (by walk_at "size") ?_)
  | ((with_reducible show wipe _ _ = wipe _ _ ∧ _); refine ⟨rfl, ?_⟩)
  | ((with_reducible show List.length _ ≤ sizeLine ∧ ∀ p, _); refine ⟨(by walk_at "size"), fun p hp => ?_⟩)
  | ((with_reducible show rIsi _ _ _ _); first | refine isi_bb ?_ | refine isi_ib ?_ | refine isi_bi ?_ | refine isi_ii ?_ | refine isi_tt (by assumption) ?_ | refine isi_ll (by assumption) ?_)
  | ((with_reducible show spDraw _ _ _ _ _); refine ⟨_, _, _, rfl, _, _, _, _, rfl, rfl, rfl, (by walk_at "dr"), (by walk_at "ar"), (by walk_at "ar"), ?_⟩)
  | ((with_reducible show tUn _ _ _ _ _); refine e_un ?_)
  | ((with_reducible show rU _ (V.int _) _ _); refine e_U ?_)
  | ((with_reducible show ∃ i, [V.int _] = [V.int i] ∧ _); refine ⟨_, rfl, ?_⟩)
  | ((with_reducible show gTup _ _ _ _ _ _ _); refine ⟨_, _, rfl, (by walk_at "slt"), rfl, ?_⟩)
  | ((with_reducible show gCons _ _ _ _ _ _); refine ⟨_, _, rfl, ?_⟩)
  | ((with_reducible show gNil _ _ _ _); refine ⟨rfl, ?_⟩)
  | ((with_reducible show tAug _ _ _ _ _ _); refine e_aug rfl ?_)
  | ((with_reducible show if true = true then _ else _); refine i_T ?_)
  | ((with_reducible show if false = true then _ else _); refine i_F ?_))
local macro_rules | `(tactic| walk_at "st") => `(tactic| first | walk_at "st1" | walk_at "st2" | (dsimp only [List.append_nil, List.nil_append, List.cons_append, Bool.not_true, Bool.not_false]))
local macro_rules | `(tactic| walk_at "go") => `(tactic| repeat walk_at "st")
local macro_rules | `(tactic| walk_at "st") => `(tactic| first
  | ((with_reducible show iRevR _ _ _ _); refine e_iRevR ?_)
  | ((with_reducible show tRg1 _ _ _ _); refine e_rg1 ?_)
  | ((with_reducible show tRg2 _ _ _ _ _); refine e_rg2 ?_)
  | ((with_reducible show iEnum _ _ _ _ _); refine e_iEnum ?_)
  | ((with_reducible show iEnumT _ _ _ _ _); refine e_iEnumT ?_)
  | ((with_reducible show iRng3 _ _ _ _); refine e_iRng3 ?_)
  | ((with_reducible show ∃ p ys, [V.ref _] = [V.ref p] ∧ SqL _ _ p ys ∧ _); refine ⟨_, _, rfl, (by walk_at "sl"), ?_⟩)
  | ((with_reducible show ∃ p ys, [V.ref _] = [V.ref p] ∧ SqT _ _ p ys ∧ _); refine ⟨_, _, rfl, (by walk_at "slt"), ?_⟩)
  | ((with_reducible show tyV _ "list" (V.ref _) _ ∧ _); refine ⟨.inl ⟨rfl, _, (by walk_at "sl")⟩, ?_⟩)
  | ((with_reducible show ∃ a b, V.bl _ = V.bl a ∧ V.bl _ = V.bl b ∧ _); refine ⟨_, _, rfl, rfl, ?_⟩)
  | ((with_reducible show ∃ c, V.bl _ = V.bl c ∧ _); refine ⟨_, rfl, ?_⟩)
  | ((with_reducible show if (!true) = true then _ else _); refine i_F ?_)
  | ((with_reducible show if (!false) = true then _ else _); refine i_T ?_))
local macro_rules | `(tactic| walk_at "st") => `(tactic| first
  | ((with_reducible show tRevT _ _ _ _ _); refine e_tRevT ?_)
  | ((with_reducible show tMake _ _ _ _ _ _ _ _); refine e_tMake ?_)
  | ((with_reducible show tMeth _ _ _ _ _ _ _ _ _ _); refine e_tMeth ?_)
  | ((with_reducible show tFld _ _ _ _ _ _); refine e_tFld ?_)
  | ((with_reducible show sFld _ _ _ _ _ _ _); refine e_sFld ?_)
  | ((with_reducible show tDNotIn _ _ _ _ _); refine e_tDNotIn ?_)
  | ((with_reducible show sDPut _ _ _ _ _ _); refine e_sDPut ?_)
  | ((with_reducible show sDDelT _ _ _ _ _); refine e_sDDelT ?_)
  | ((with_reducible show tDNewT _ _ _); refine e_tDNewT ?_)
  | ((with_reducible show tDisp _ _ _ _); refine e_tDisp ?_)
  | ((with_reducible show tPairs ((_, _) :: _) _ _ _); refine e_pairs1 ?_)
  | ((with_reducible show tPairs [] _ _ _); refine e_pairs0 ?_)
  | ((with_reducible show tWhile _ _ _ _ _); refine e_tWhile ?_))
local macro_rules | `(tactic| walk_at "st") => `(tactic| first
  | ((with_reducible show sDAug _ _ _ _ _ _ _); refine e_sDAug ?_)
  | ((with_reducible show rAdd (V.int _) (V.int _) _ _); refine ⟨_, _, rfl, rfl, ?_⟩)
  | ((with_reducible show tDGet _ _ _ _ _); refine e_tDGet ?_)
  | ((with_reducible show tDelL _ _ _ _ _); refine e_tDelL ?_)
  | ((with_reducible show tLockE _ _ _ _); refine e_tLockE ?_)
  | ((with_reducible show iValsT _ _ _ _); refine e_iValsT ?_)
  | ((with_reducible show iKeys _ _ _ _); refine e_iKeys ?_)
  | ((with_reducible show tLock _ _ _ _); refine e_tLock ?_))
section
variable {P : Program} {w : World} {K : PySem.W.Frag} {mg : Str → Option Value} {base : Heap}
theorem ok_Lines___init__ (T : Txt K mg)   {f : Addr} {fd : FuncData} (F : FunD K "__init__" "Lines.__init__" (defArgs s_Lines___init__) (defBody s_Lines___init__) (defScope s_Lines___init__) [] [] f fd) : FnOk P w K mg base CX0 1 f fd ["self", "count"] (sp_Lines___init__ K) := by
  refine F.ok sc_Lines___init__ (fun vs H Q E h => ?_) (fun cdv A outer s H vs Q E hr h => ?_)
  · obtain ⟨_, _, rfl, _⟩ := h
    rfl
  · have S := sc_Lines___init__
    refine ⟨_, PSs.nox (pss_cons (ps_fld (pv 0) (pv 1) rfl)
    (pss_cons (ps_fld (pv 0) pe_dnewT rfl)
    (pss_cons (ps_fld (pv 0) (pe_disp (pps_cons pe_str pe_int (pps_cons pe_str pe_int (pps_cons pe_str pe_int (pps_cons pe_str pe_int pps_nil)))) rfl rfl (by simp) (by decide)) rfl)
    (pss_cons (ps_fld (pv 0) pe_dnewT rfl)
    (pss_one (ps_for PassesOwn.never rfl (pi_range2 (by rfl) T.f_range (pa_cons pe_int (pa_cons (pe_op op_add (pv 1) pe_int) pa_nil))) (pg_name (i := 2) S.nd rfl (by first | exact .inl rfl | exact .inr rfl))
    (pss_one (ps_for PassesOwn.never rfl (pi_range2 (by rfl) T.f_range (pa_cons pe_int (pa_cons (pe_op op_add (pv 1) pe_int) pa_nil))) (pg_name (i := 3) S.nd rfl (by first | exact .inl rfl | exact .inr rfl))
      (pss_one (ps_if (pt_cmpR op_ne (pv 2) (pv 3) (nomark _))
        (pss_one (ps_dput (hu_of hr) (pe_fld (pv 0) rfl) (pe_tup (pa_cons (pv 2) (pa_cons (pv 3) pa_nil))) (pe_lst pa_nil) rfl))
        pss_nil)))))))))), ?_⟩
    try dsimp only [cxOf, Cx.nox]
    obtain ⟨_, _, rfl, a, dx, n, rfl, rfl, ha, hn1, hn9, k⟩ := h
    have c1 := T.cl_Lines
    walk_at "go"
    refine ⟨a, _, dx, [], rfl, ha, c1, T.no_Lines__count, by decide, ?_⟩
    walk_at "go"
    intro c hc
    have nac : a ≠ c := fun z => by rw [← z, upd_same] at hc; cases hc
    have hc0 : H c = none := none_upd hc
    walk_at "go"
    refine ⟨a, _, dx, _, rfl, by rw [upd_ne nac]; exact upd_same, c1, T.no_Lines__cuts, Nat.lt_of_le_of_lt (Nat.le_refl 1) (by decide), ?_⟩
    walk_at "go"
    intro t ht
    have nat : a ≠ t := fun z => by rw [← z, upd_same] at ht; cases ht
    have ht0 : H t = none := none_upd (none_upd (none_upd ht))
    have ntc : c ≠ t := fun z => by rw [← z, upd_ne nac.symm, upd_same] at ht; cases ht
    walk_at "go"
    refine ⟨upd_same, [(.inr "sent", .int 0), (.inr "taken", .int 0), (.inr "doubled", .int 0), (.inr "lost", .int 0)], rfl, by decide, ?_⟩
    walk_at "go"
    refine ⟨a, _, dx, _, rfl, by rw [upd_ne nat, upd_ne nat]; exact upd_same, c1, T.no_Lines__totals, Nat.lt_of_le_of_lt (Nat.le_refl 2) (by decide), ?_⟩
    walk_at "go"
    intro u hu
    have nau : a ≠ u := fun z => by rw [← z, upd_same] at hu; cases hu
    have hu0 : H u = none := none_upd (none_upd (none_upd (none_upd (none_upd (none_upd hu)))))
    have ncu : c ≠ u := fun z => by rw [← z, upd_ne nac.symm, upd_ne ntc, upd_ne ntc, upd_ne nac.symm, upd_same] at hu; cases hu
    have ntu : t ≠ u := fun z => by rw [← z, upd_ne nat.symm, upd_same] at hu; cases hu
    walk_at "go"
    refine ⟨a, _, dx, _, rfl, by rw [upd_ne nau]; exact upd_same, c1, T.no_Lines__queues, Nat.lt_of_le_of_lt (Nat.le_refl 3) (by decide), ?_⟩
    walk_at "go"
    have tn : (n + 1 - 1).toNat = n.toNat := by congr 1; omega
    rw [tn]
    have mk : ∀ H4 : Hp, ∀ (dq : Pq → Addr) (ps : List Pq), (∃ fs : List (Str × V), H4 a = some (.ins (cLin K) dx fs) ∧ fs.lookup ("_count" : Str) = some (.int n) ∧ fs.lookup ("_cuts" : Str) = some (.ref c) ∧ fs.lookup ("_totals" : Str) = some (.ref t) ∧ fs.lookup ("_queues" : Str) = some (.ref u) ∧ ∀ m : Str, m ∉ (["_count", "_cuts", "_totals", "_queues"] : List Str) → fs.lookup m = none) →
        H4 c = some (.dT []) → H4 t = some (.dK (totV (0, 0, 0, 0))) → H4 u = some (.dT (rows ps dq)) → LnQ K H4 a n c t u [] (0, 0, 0, 0) ps dq := fun H4 dq ps h1 h2 h3 h4 =>
      let ⟨fs, i1, i2⟩ := h1
      ⟨⟨dx, fs, i1, i2⟩, h2, h3, h4, ncu⟩
    refine for_rng (fun i σ H4 => ∃ (v2 v3 : Option V) (dq : Pq → Addr), σ = [some (.ref a), some (.int n), v2, v3] ∧ (∀ b, b ≠ a → ∀ o, H b = some o → H4 b = some o) ∧ LnQ K H4 a n c t u [] (0, 0, 0, 0) (preP n.toNat i) dq ∧
      (∀ p ∈ preP n.toNat i, H (dq p) = none ∧ H4 (dq p) = some (.lst [])) ∧ (∀ p p', p ∈ preP n.toNat i → p' ∈ preP n.toNat i → dq p = dq p' → p = p')) ⟨_, _, fun _ => 0, rfl, fun b nb o e => ?_, mk _ _ _ ⟨_, upd_same, ?_, ?_, ?_, ?_, fun m hm => ?_⟩ ?_ ?_ ?_, fun p hp => ?_, fun p p' hp => ?_⟩ (fun i σ H4 hi q => ?_) (fun σ H4 q => ?_)
    · rw [upd_ne nb, upd_ne (ne_of_none e hu0), upd_ne nb, upd_ne (ne_of_none e ht0), upd_ne (ne_of_none e ht0), upd_ne nb, upd_ne (ne_of_none e hc0), upd_ne nb]; exact e
    · rw [lookup_putF, if_neg (by decide), lookup_putF, if_neg (by decide), lookup_putF, if_neg (by decide), lookup_putF, if_pos rfl]
    · rw [lookup_putF, if_neg (by decide), lookup_putF, if_neg (by decide), lookup_putF, if_pos rfl]
    · rw [lookup_putF, if_neg (by decide), lookup_putF, if_pos rfl]
    · rw [lookup_putF, if_pos rfl]
    · simp only [List.mem_cons, List.not_mem_nil, or_false, not_or] at hm
      rw [lookup_putF, if_neg hm.2.2.2, lookup_putF, if_neg hm.2.2.1, lookup_putF, if_neg hm.2.1, lookup_putF, if_neg hm.1]
      rfl
    · rw [upd_ne nac.symm, upd_ne ncu, upd_ne nac.symm, upd_ne ntc, upd_ne ntc, upd_ne nac.symm]; exact upd_same
    · rw [upd_ne nat.symm, upd_ne ntu, upd_ne nat.symm]; exact upd_same
    · rw [upd_ne nau.symm]; exact upd_same
    · cases hp
    · cases hp
    · obtain ⟨v2, v3, dq, rfl, hk, hL, hd, hj⟩ := q
      walk_at "go"
      rw [tn]
      refine for_rng (fun j σ H4 => ∃ (v3 : Option V) (dq : Pq → Addr), σ = [some (.ref a), some (.int n), some (.int (1 + (i : Nat))), v3] ∧ (∀ b, b ≠ a → ∀ o, H b = some o → H4 b = some o) ∧ LnQ K H4 a n c t u [] (0, 0, 0, 0) (preP n.toNat i ++ rowP n.toNat i j) dq ∧
        (∀ p ∈ preP n.toNat i ++ rowP n.toNat i j, H (dq p) = none ∧ H4 (dq p) = some (.lst [])) ∧ (∀ p p', p ∈ preP n.toNat i ++ rowP n.toNat i j → p' ∈ preP n.toNat i ++ rowP n.toNat i j → dq p = dq p' → p = p')) ⟨_, dq, rfl, hk, ?_, ?_, ?_⟩ (fun j σ H4 hj q => ?_) (fun σ H4 q => ?_)
      · have e0 : rowP n.toNat i 0 = [] := rfl
        rw [e0, List.append_nil]
        exact hL
      · have e0 : rowP n.toNat i 0 = [] := rfl
        rw [e0, List.append_nil]
        exact hd
      · have e0 : rowP n.toNat i 0 = [] := rfl
        rw [e0, List.append_nil]
        exact hj
      · obtain ⟨v3, dq, rfl, hk, hL, hd, hj⟩ := q
        walk_at "go"
        refine i_nd (fun h1 => ?_) (fun h1 => ?_)
        · have h1 : ¬ j = i := by omega
          have en : (1 + (i : Int), 1 + (j : Int)) = ((i : Int) + 1, (j : Int) + 1) := by rw [Int.add_comm 1, Int.add_comm 1]
          have hno : ((i : Int) + 1, (j : Int) + 1) ∉ preP n.toNat i ++ rowP n.toNat i j := fun z => by
            rcases List.mem_append.mp z with z | z
            · have := (mem_preP.mp z).2.1; simp only at this; omega
            · have := (mem_rowP.mp z).2.2.1; simp only at this; omega
          walk_at "go"
          rename_i l hl
          have s5 := same_new (o := .lst []) hl
          refine (hL.same s5).fq c1 T.no_Lines__queues ?_
          walk_at "go"
          rename_i T0 hT
          have s6 := s5.trans (same_new (o := .tup [.int (1 + (i : Nat)), .int (1 + (j : Nat))]) hT)
          have hL6 := hL.same s6
          have el : upd (upd H4 l (.lst [])) T0 (.tup [.int (1 + (i : Nat)), .int (1 + (j : Nat))]) l = some (.lst []) := same_new hT _ _ upd_same
          have lz : (rows (preP n.toNat i ++ rowP n.toNat i j) dq).length ≤ 1000 := by
            have l1 : ∀ j, (rowP n.toNat i j).length ≤ j := fun j => by
              unfold rowP
              rw [List.length_map]
              exact Nat.le_trans (List.length_filter_le ..) (by rw [List.length_range]; exact Nat.le_refl _)
            have l2 : ∀ i, (preP n.toNat i).length ≤ n.toNat * i := fun i => by
              induction i with
              | zero => exact Nat.le_refl _
              | succ i ih =>
                rw [preP_succ, List.length_append]
                have : (rowP n.toNat i n.toNat).length ≤ n.toNat := by
                  unfold rowP
                  rw [List.length_map]
                  exact Nat.le_trans (List.length_filter_le ..) (by rw [List.length_range]; exact Nat.le_refl _)
                rw [Nat.mul_succ]
                omega
            unfold rows
            rw [List.length_map, List.length_append]
            have := l1 j
            have := l2 i
            have : n.toNat * i ≤ 9 * 9 := Nat.mul_le_mul (by omega) (by omega)
            omega
          refine ⟨u, _, rfl, DPut.t (k := ky (1 + (i : Int), 1 + (j : Int))) hL6.que upd_same (small lz (by decide)), ?_⟩
          rw [en, rows_snoc hno]
          have ep : preP n.toNat i ++ rowP n.toNat i (j + 1) = (preP n.toNat i ++ rowP n.toNat i j) ++ [((i : Int) + 1, (j : Int) + 1)] := by
            rw [rowP_succ, if_neg h1, List.append_assoc]
          rw [ep]
          obtain ⟨n1, n2, n3, n4⟩ := hL6.nl el
          have fl : H l = none := by
            cases e : H l with
            | none => rfl
            | some o =>
              by_cases ea : l = a
              · exact absurd ea n1
              · rw [hk l ea o e] at hl; cases hl
          refine ⟨_, fun x => if x = ((i : Int) + 1, (j : Int) + 1) then l else dq x, rfl, fun b nb o e => ?_, ?_, fun p hp => ?_, fun p p' hp hp' => ?_⟩
          · rw [upd_ne (ne_of_none e hu0)]
            exact s6 _ _ (hk b nb o e)
          · obtain ⟨m1, m2, m3, m4, m5⟩ := hL6.na
            obtain ⟨dx6, fs6, i1, i2⟩ := hL6.ins
            exact ⟨⟨dx6, fs6, by rw [upd_ne m3]; exact i1, i2⟩, by rw [upd_ne ncu]; exact hL6.cuts, by rw [upd_ne m5.symm]; exact hL6.tot, upd_same, ncu⟩
          · dsimp only
            by_cases e : p = ((i : Int) + 1, (j : Int) + 1)
            · rw [if_pos e, upd_ne n4]
              exact ⟨fl, el⟩
            · rw [if_neg e]
              have hp : p ∈ preP n.toNat i ++ rowP n.toNat i j := by
                rcases List.mem_append.mp hp with hp | hp
                · exact hp
                · exact absurd (List.mem_singleton.mp hp) e
              obtain ⟨g1, g2⟩ := hd p hp
              have g3 := s6 _ _ g2
              rw [upd_ne (hL6.nl g3).2.2.2]
              exact ⟨g1, g3⟩
          · have hd2 : ∀ x ∈ preP n.toNat i ++ rowP n.toNat i j, dq x ≠ l := fun x hx z => by
              have := (hd x hx).2
              rw [z, hl] at this
              cases this
            have old : ∀ x, x ∈ preP n.toNat i ++ rowP n.toNat i j ++ [((i : Int) + 1, (j : Int) + 1)] → x ≠ ((i : Int) + 1, (j : Int) + 1) → x ∈ preP n.toNat i ++ rowP n.toNat i j := fun x hx ne => by
              rcases List.mem_append.mp hx with hx | hx
              · exact hx
              · exact absurd (List.mem_singleton.mp hx) ne
            dsimp only
            by_cases e : p = ((i : Int) + 1, (j : Int) + 1)
            · by_cases e' : p' = ((i : Int) + 1, (j : Int) + 1)
              · exact fun _ => by rw [e, e']
              · rw [if_pos e, if_neg e']
                exact fun z => absurd z.symm (hd2 p' (old p' hp' e'))
            · by_cases e' : p' = ((i : Int) + 1, (j : Int) + 1)
              · rw [if_neg e, if_pos e']
                exact fun z => absurd z (hd2 p (old p hp e))
              · rw [if_neg e, if_neg e']
                exact hj p p' (old p hp e) (old p' hp' e')
        · walk_at "go"
          rw [rowP_succ, if_pos (by omega)]
          exact ⟨_, dq, rfl, hk, hL, hd, hj⟩
      · obtain ⟨v3, dq, rfl, hk, hL, hd, hj⟩ := q
        rw [preP_succ]
        exact ⟨_, _, dq, rfl, hk, hL, hd, hj⟩
    · obtain ⟨v2, v3, dq, rfl, hk, hL, hd, hj⟩ := q
      walk_at "go"
      exact k H4 c t u dq hk hc0 ht0 hu0 hL hd hj
theorem ok_Lines_is_joined (T : Txt K mg)  (c_line : Cal P w K mg base 1 "_line" (sp_line K)) {f : Addr} {fd : FuncData} (F : FunD K "is_joined" "Lines.is_joined" (defArgs s_Lines_is_joined) (defBody s_Lines_is_joined) (defScope s_Lines_is_joined) [] [] f fd) : FnOk P w K mg base CX0 2 f fd ["self", "first", "second"] (sp_Lines_is_joined K) := by
  refine F.ok sc_Lines_is_joined (fun vs H Q E h => ?_) (fun cdv A outer s H vs Q E hr h => ?_)
  · obtain ⟨_, _, _, rfl, _⟩ := h
    rfl
  · have S := sc_Lines_is_joined
    refine ⟨_, PSs.nox (pss_one (ps_ret (pe_cmp (pc_dnotin (hu_of hr) (pe_c c_line hr (by decide) (by rfl) (pa_cons (pv 1) (pa_cons (pv 2) pa_nil))) (pe_fld (pv 0) rfl))))), ?_⟩
    try dsimp only [cxOf, Cx.nox]
    obtain ⟨_, _, _, rfl, a, c, n, kvs, p, q, rfl, rfl, rfl, hL, k⟩ := h
    walk_at "go"
    refine ⟨_, _, rfl, p, q, rfl, rfl, fun T0 H1 s1 e1 => ?_⟩
    walk_at "go"
    refine fld_cuts T.cl_Lines T.no_Lines__cuts (hL.same s1) ?_
    walk_at "go"
    refine ⟨c, _, rfl, DGet.t (k := keyL p q) (hL.same s1).dict e1, ?_⟩
    walk_at "go"
    exact k H1 s1
theorem ok_Lines_cut (T : Txt K mg)  (c_line : Cal P w K mg base 1 "_line" (sp_line K)) {f : Addr} {fd : FuncData} (F : FunD K "cut" "Lines.cut" (defArgs s_Lines_cut) (defBody s_Lines_cut) (defScope s_Lines_cut) [] [] f fd) : FnOk P w K mg base CX0 2 f fd ["self", "first", "second"] (sp_Lines_cut K) := by
  refine F.ok sc_Lines_cut (fun vs H Q E h => ?_) (fun cdv A outer s H vs Q E hr h => ?_)
  · obtain ⟨_, _, _, rfl, _⟩ := h
    rfl
  · have S := sc_Lines_cut
    refine ⟨_, PSs.nox (pss_one (ps_dput (hu_of hr) (pe_fld (pv 0) rfl) (pe_c c_line hr (by decide) (by rfl) (pa_cons (pv 1) (pa_cons (pv 2) pa_nil))) pe_bl rfl)), ?_⟩
    try dsimp only [cxOf, Cx.nox]
    obtain ⟨_, _, _, rfl, a, c, n, kvs, p, q, rfl, rfl, rfl, hL, hz, k⟩ := h
    walk_at "go"
    refine fld_cuts T.cl_Lines T.no_Lines__cuts hL ?_
    walk_at "go"
    refine ⟨_, _, rfl, p, q, rfl, rfl, fun T0 H1 s1 e1 => ?_⟩
    refine ⟨c, _, rfl, DPut.t (k := keyL p q) (hL.same s1).dict e1 (small hz (by decide)), ?_⟩
    walk_at "go"
    exact k H1 s1
theorem ok_Lines_join (T : Txt K mg)  (m_Lines_is_joined : C8.Met P w K mg base 2 (He.ga K "Lines") "is_joined" (sp_Lines_is_joined K) []) (c_line : Cal P w K mg base 1 "_line" (sp_line K)) {f : Addr} {fd : FuncData} (F : FunD K "join" "Lines.join" (defArgs s_Lines_join) (defBody s_Lines_join) (defScope s_Lines_join) [] [] f fd) : FnOk P w K mg base CX0 3 f fd ["self", "first", "second"] (sp_Lines_join K) := by
  refine F.ok sc_Lines_join (fun vs H Q E h => ?_) (fun cdv A outer s H vs Q E hr h => ?_)
  · obtain ⟨_, _, _, rfl, _⟩ := h
    rfl
  · have S := sc_Lines_join
    refine ⟨_, PSs.nox (pss_one (ps_if (pt_not (pt_val (C8.pe_mt m_Lines_is_joined hr (by decide) (pv 0) (pa_cons (pv 1) (pa_cons (pv 2) pa_nil)))))
    (pss_one (ps_ddelT (hu_of hr) (pe_fld (pv 0) rfl) (pe_c c_line hr (by decide) (by rfl) (pa_cons (pv 1) (pa_cons (pv 2) pa_nil)))))
    pss_nil)), ?_⟩
    try dsimp only [cxOf, Cx.nox]
    obtain ⟨_, _, _, rfl, a, c, n, kvs, p, q, rfl, rfl, rfl, hL, k⟩ := h
    walk_at "go"
    refine met_ln (by decide) hL ?_
    walk_at "go"
    refine ⟨_, _, _, rfl, a, c, n, kvs, p, q, rfl, rfl, rfl, hL, fun H1 s1 => ?_⟩
    walk_at "go"
    rw [Bool.not_not]
    refine i_b (fun h1 => ?_) (fun h1 => ?_)
    · walk_at "go"
      obtain ⟨dx, fs, f1, f2, f3, f4, f5⟩ := id (hL.same s1)
      refine ⟨a, _, dx, fs, _, rfl, f1, T.cl_Lines, T.no_Lines__cuts, f3, ?_⟩
      walk_at "go"
      refine ⟨_, _, rfl, p, q, rfl, rfl, fun T0 H2 s2 e2 => ?_⟩
      refine ⟨c, kvs, keyL p q, T0, rfl, (hL.same (s1.trans s2)).dict, rfl, e2, h1, ?_⟩
      walk_at "go"
      exact k H2 _ (s1.trans s2) (dropK_le kvs _) fun j => by rw [valV_drop]; split <;> rfl
    · walk_at "go"
      have k2 := k H1 kvs s1 (Nat.le_refl _) fun j => by
        by_cases e : j = keyL p q
        · rw [if_pos e, e]; exact h1
        · rw [if_neg e]
      rw [upd_self (hL.same s1).dict] at k2
      exact k2
theorem ok_Lines_send (T : Txt K mg)  (m_Lines_is_joined : C8.Met P w K mg base 2 (He.ga K "Lines") "is_joined" (sp_Lines_is_joined K) []) {f : Addr} {fd : FuncData} (F : FunD K "send" "Lines.send" (defArgs s_Lines_send) (defBody s_Lines_send) (defScope s_Lines_send) [] [] f fd) : FnOk P w K mg base CX0 3 f fd ["self", "source", "target", "data"] (sp_Lines_send K) := by
  refine F.ok sc_Lines_send (fun vs H Q E h => ?_) (fun cdv A outer s H vs Q E hr h => ?_)
  · obtain ⟨_, _, _, _, rfl, _⟩ := h
    rfl
  · have S := sc_Lines_send
    refine ⟨_, PSs.nox (pss_cons (ps_daug (hu_of hr) (pe_fld (pv 0) rfl) pe_str pe_int in_add (fun _ _ _ => rfl))
    (pss_cons (ps_if (pt_not (pt_val (C8.pe_mt m_Lines_is_joined hr (by decide) (pv 0) (pa_cons (pv 1) (pa_cons (pv 2) pa_nil)))))
    (pss_cons (ps_daug (hu_of hr) (pe_fld (pv 0) rfl) pe_str pe_int in_add (fun _ _ _ => rfl))
      (pss_one (ps_ret pe_bl)))
    pss_nil)
    (pss_cons (ps_expr (pe_bm PySem.F.plainAttrs_list PySem.F.slot_list_append PySem.F.type_list_append mt_append (pe_dget (hu_of hr) (pe_fld (pv 0) rfl) (pe_tup (pa_cons (pv 1) (pa_cons (pv 2) pa_nil))) (fun _ _ => rfl)) (pa_cons (pe_callTy call_list_of (by rfl) T.f_list (by first | rfl | decide +kernel) (pa_cons (pv 3) pa_nil)) pa_nil)))
    (pss_one (ps_ret pe_bl))))), ?_⟩
    try dsimp only [cxOf, Cx.nox]
    obtain ⟨_, _, _, _, rfl, a, c, t, q, n, kvs, tt, ps, dq, s, r, D, ds, M, ls, rfl, rfl, rfl, rfl, hL, hp, hQ, hD, hD2, hl, hMd, hM, k1, k2⟩ := h
    walk_at "go"
    refine hL.ft T.cl_Lines T.no_Lines__totals ?_
    walk_at "go"
    refine ⟨t, .int tt.1, rfl, by rw [← tot_sent]; exact DGet.k (k := .inr "sent") hL.tot, ?_⟩
    walk_at "go"
    refine ⟨_, DPut.k (k := .inr "sent") hL.tot (tot_len _), ?_⟩
    rw [put_sent]
    have hL1 := hL.putT (tt' := (tt.1 + 1, tt.2.1, tt.2.2.1, tt.2.2.2))
    have f1 : Fr [t] H (upd H t (.dK (totV (tt.1 + 1, tt.2.1, tt.2.2.1, tt.2.2.2)))) := (Fr.refl _ _).put (by simp)
    generalize upd H t (.dK (totV (tt.1 + 1, tt.2.1, tt.2.2.1, tt.2.2.2))) = H1 at hL1 f1 ⊢
    walk_at "go"
    refine hL1.me (by decide) ?_
    walk_at "go"
    refine ⟨_, _, _, rfl, a, c, n, kvs, s, r, rfl, rfl, rfl, hL1.ln, fun H2 s2 => ?_⟩
    have hL2 := hL1.same s2
    have f2 := f1.same s2
    clear hL1 f1 s2
    walk_at "go"
    rw [Bool.not_not]
    refine i_b (fun hc => ?_) (fun hc => ?_)
    · walk_at "go"
      refine hL2.ft T.cl_Lines T.no_Lines__totals ?_
      walk_at "go"
      refine ⟨t, .int tt.2.2.2, rfl, by rw [← tot_lost (tt.1 + 1, tt.2.1, tt.2.2.1, tt.2.2.2)]; exact DGet.k (k := .inr "lost") hL2.tot, ?_⟩
      walk_at "go"
      refine ⟨_, DPut.k (k := .inr "lost") hL2.tot (tot_len _), ?_⟩
      rw [put_lost]
      walk_at "go"
      exact k1 hc _ (f2.put (by simp)) hL2.putT
    · walk_at "go"
      refine hL2.fq T.cl_Lines T.no_Lines__queues ?_
      walk_at "go"
      rename_i T0 hT
      have s3 := same_new (o := .tup [.int s, .int r]) hT
      have hL3 := hL2.same s3
      have f3 := f2.same s3
      have sp : Sep M [t] H := fun x hx => .inr fun l => by rw [List.mem_singleton.mp hx, hL.tot]; intro z; cases z
      have hQ3 := hQ.fr f3 (by
        obtain ⟨qs, eq, hq⟩ := hQ
        simp only [List.mem_singleton]
        exact (hL.nl eq).2.2.1) sp
      have eT : upd H2 T0 (.tup [.int s, .int r]) T0 = _ := upd_same
      have eD : upd H2 T0 (.tup [.int s, .int r]) D = some (.lst (ds.map V.int)) := f3 _ _ (by simp only [List.mem_singleton]; exact (hL.nl hD2).2.2.1) hD2
      generalize upd H2 T0 (.tup [.int s, .int r]) = H3 at hL3 f3 hQ3 eT eD ⊢
      obtain ⟨qs, eq, hq⟩ := hQ3
      have lq := prd_len hq
      refine hL3.dg hp eT ?_
      walk_at "go"
      intro L hN
      have s4 := same_new (o := .lst (ds.map V.int)) hN
      have eq4 := s4 _ _ eq
      walk_at "go"
      refine e_app eq4 (small (by rw [List.length_map]; omega : _ ≤ 1000) (by decide)) ?_
      walk_at "go"
      have nL : ¬ M L := fun m => by
        have h0 := hM L m
        cases e : H L with
        | none => exact h0 e
        | some o =>
          by_cases z : L = t
          · rw [z, hL3.tot] at hN; cases hN
          · rw [f3 _ _ (by simp only [List.mem_singleton]; exact z) e] at hN; cases hN
      have ndL : dq (s, r) ≠ L := fun z => by rw [← z, eq] at hN; cases hN
      refine k2 hc _ ((f3.same s4).mono (S' := [t, dq (s, r)]) (by simp) |>.put (by simp)) ((hL3.same s4).putL eq4) ⟨qs ++ [L], by rw [upd_same, List.map_append]; rfl, prd_snoc (prd_imp (fun p e g => ⟨g.1, ?_⟩) hq) ⟨nL, by rw [upd_ne ndL.symm]; exact upd_same⟩⟩
      rw [upd_ne]
      · exact s4 _ _ g.2
      · intro z
        exact g.1 (by rw [z]; exact hMd)
theorem ok_Lines_waiting (T : Txt K mg)   {f : Addr} {fd : FuncData} (F : FunD K "waiting" "Lines.waiting" (defArgs s_Lines_waiting) (defBody s_Lines_waiting) (defScope s_Lines_waiting) [] [] f fd) : FnOk P w K mg base CX0 1 f fd ["self", "source", "target"] (sp_Lines_waiting K) := by
  refine F.ok sc_Lines_waiting (fun vs H Q E h => ?_) (fun cdv A outer s H vs Q E hr h => ?_)
  · obtain ⟨_, _, _, rfl, _⟩ := h
    rfl
  · have S := sc_Lines_waiting
    refine ⟨_, PSs.nox (pss_one (ps_ret (pe_lc (own := [("letter", 3)]) (g := gName 3) (tt := tYes) rfl S.nd (pi_list (pe_dget (hu_of hr) (pe_fld (pv 0) rfl) (pe_tup (pa_cons (pv 1) (pa_cons (pv 2) pa_nil))) (fun _ _ => rfl))) (blkOk_by (N := N_Lines_waiting) (sc := defScope s_Lines_waiting) (by decide +kernel)) (fun _ _ _ _ _ => (pg_name (i := 3) S.nd rfl (by first | exact .inl rfl | exact .inr rfl))) (fun _ _ _ _ _ => pts_nil) (fun _ _ _ _ _ => (pe_callTy (lstOK K) (by rfl) T.f_list (by first | rfl | decide +kernel) (pa_cons (pv 3) pa_nil)))))), ?_⟩
    try dsimp only [cxOf, Cx.nox]
    obtain ⟨_, _, _, rfl, a, c, t, q, n, kvs, tt, ps, dq, s, r, M, ls, rfl, rfl, rfl, hL, hp, hQ, hl, k⟩ := h
    walk_at "go"
    refine hL.fq T.cl_Lines T.no_Lines__queues ?_
    walk_at "go"
    rename_i T0 hT
    have s1 := same_new (o := .tup [.int s, .int r]) hT
    have hL1 := hL.same s1
    have hQ1 := hQ.same s1
    have eT : upd H T0 (.tup [.int s, .int r]) T0 = _ := upd_same
    generalize upd H T0 (.tup [.int s, .int r]) = H1 at s1 hL1 hQ1 eT ⊢
    refine hL1.dg hp eT ?_
    obtain ⟨qs, eq, hq⟩ := hQ1
    walk_at "go"
    intro D hD
    have lq := prd_len hq
    refine lc_lst (xs := qs.map V.ref) (fun pre H2 => Same H1 H2 ∧ ∃ (rs : List Addr) (qp : List Addr) (lp : Lts), pre = qp.map V.ref ∧ H2 D = some (.lst (rs.map V.ref)) ∧ qp.length ≤ 1000 ∧ rs.length = qp.length ∧ Paired (fun p (c : List Int) => p ≠ D ∧ H1 p = none ∧ H2 p = some (.lst (c.map V.int))) rs lp ∧ lp = ls.take qp.length) ⟨same_new hD, [], [], [], rfl, upd_same, by simp, rfl, .nil, rfl⟩ (fun pre H2 z => SqL.of (z.1 _ _ eq)) (fun pre x post H2 e z => ?_) (fun H2 z => ?_)
    · obtain ⟨s2, rs, qp, lp, rfl, e2, hz, lr, hr2, el⟩ := z
      have hlen : qp.length < qs.length := by
        have := congrArg List.length e
        rw [List.length_map, List.length_append, List.length_map, List.length_cons] at this
        omega
      obtain ⟨p, c2, hp1, hc1, _, hp2⟩ := prd_get hq qp.length (by omega)
      have ex : x = .ref p := by
        have h1 : (qs.map V.ref)[qp.length]? = some x := by rw [e, List.getElem?_append_right (by simp)]; simp
        rw [List.getElem?_map, hp1] at h1
        exact (Option.some.inj h1).symm
      subst ex
      have e3 := s2 _ _ hp2
      walk_at "go"
      intro L hN
      have s3 := same_new (o := .lst (c2.map V.int)) hN
      have nLD : L ≠ D := fun z => by rw [z, e2] at hN; cases hN
      refine ⟨_, s3 _ _ e2, small (by rw [List.length_map]; omega : _ ≤ 1000) (by decide), Same.mut (s2.trans s3) hD, rs ++ [L], qp ++ [p], lp ++ [c2], by rw [List.map_append]; rfl, by rw [upd_same, List.map_append]; rfl, by rw [List.length_append, List.length_singleton]; omega, by rw [List.length_append, List.length_append, lr]; rfl, ?_, by rw [List.length_append, List.length_singleton, List.take_add_one, hc1, el]; rfl⟩
      refine prd_snoc (prd_imp (fun p' c' g => ⟨g.1, g.2.1, by rw [upd_ne g.1]; exact s3 _ _ g.2.2⟩) hr2) ⟨nLD, same_none s2 hN, by rw [upd_ne nLD]; exact upd_same⟩
    · obtain ⟨s2, rs, qp, lp, epre, e2, hz, lr, hr2, el⟩ := z
      have hlen : qp.length = qs.length := by
        have := congrArg List.length epre
        rw [List.length_map, List.length_map] at this
        omega
      have el : lp = ls := by rw [el, hlen, lq, List.take_length]
      subst el
      exact k D rs H2 (s1.trans s2) (same_none s1 hD) e2 (prd_imp (fun p c g => ⟨g.1, same_none s1 g.2.1, g.2.2⟩) hr2)
theorem ok_Lines_take (T : Txt K mg)  (m_Lines__waits : C8.Met P w K mg base 1 (He.ga K "Lines") "_waits" (sp_Lines__waits K) []) (m_Lines_is_joined : C8.Met P w K mg base 2 (He.ga K "Lines") "is_joined" (sp_Lines_is_joined K) []) {f : Addr} {fd : FuncData} (F : FunD K "take" "Lines.take" (defArgs s_Lines_take) (defBody s_Lines_take) (defScope s_Lines_take) [] [] f fd) : FnOk P w K mg base CX0 3 f fd ["self", "source", "target", "index"] (sp_Lines_take K) := by
  refine F.ok sc_Lines_take (fun vs H Q E h => ?_) (fun cdv A outer s H vs Q E hr h => ?_)
  · obtain ⟨_, _, _, _, rfl, _⟩ := h
    rfl
  · have S := sc_Lines_take
    refine ⟨_, PSs.nox (pss_cons (ps_if (pw_or (pt_not (pt_val (C8.pe_mt m_Lines_is_joined hr (by decide) (pv 0) (pa_cons (pv 1) (pa_cons (pv 2) pa_nil))))) (pw_or1 (pt_not (pt_val (C8.pe_mt m_Lines__waits hr (by decide) (pv 0) (pa_cons (pv 1) (pa_cons (pv 2) (pa_cons (pv 3) pa_nil)))))))).pt
    (pss_one (ps_ret pe_non))
    pss_nil)
    (pss_cons (ps_daug (hu_of hr) (pe_fld (pv 0) rfl) pe_str pe_int in_add (fun _ _ _ => rfl))
    (pss_one (ps_ret (pe_bm PySem.F.plainAttrs_list PySem.F.slot_list_pop PySem.F.type_list_pop mt_popAt (pe_dget (hu_of hr) (pe_fld (pv 0) rfl) (pe_tup (pa_cons (pv 1) (pa_cons (pv 2) pa_nil))) (fun _ _ => rfl)) (pa_cons (pv 3) pa_nil)))))), ?_⟩
    try dsimp only [cxOf, Cx.nox]
    obtain ⟨_, _, _, _, rfl, a, c, t, q, n, kvs, tt, ps, dq, s, r, i, M, ls, rfl, rfl, rfl, rfl, hL, hp, hQ, hl, hMd, k1, k2⟩ := h
    have sp : Sep M [t] H := fun x hx => .inr fun l => by rw [List.mem_singleton.mp hx, hL.tot]; intro z; cases z
    walk_at "go"
    refine hL.me (by decide) ?_
    walk_at "go"
    refine ⟨_, _, _, rfl, a, c, n, kvs, s, r, rfl, rfl, rfl, hL.ln, fun H1 s1 => ?_⟩
    have hL1 := hL.same s1
    have hQ1 := hQ.same s1
    walk_at "go"
    rw [Bool.not_not]
    refine i_b (fun hc => ?_) (fun hc => ?_)
    · walk_at "go"
      exact k1 (by rw [hc]; rfl) _ s1
    · walk_at "go"
      refine hL1.me (by decide) ?_
      walk_at "go"
      refine ⟨_, _, _, _, rfl, a, c, t, q, n, kvs, tt, ps, dq, s, r, i, M, ls, rfl, rfl, rfl, rfl, hL1, hp, hQ1, fun H2 s2 => ?_⟩
      have hL2 := hL1.same s2
      have hQ2 := hQ1.same s2
      have s2 := s1.trans s2
      clear hL1 hQ1
      walk_at "go"
      refine i_nb (fun hs => ?_) (fun hs => ?_)
      · walk_at "go"
        exact k1 (by rw [hc, hs]; rfl) _ s2
      · obtain ⟨i0, i1⟩ := spot_iff hs
        have k2 := k2 (by rw [hc, hs]; rfl)
        walk_at "go"
        refine hL2.ft T.cl_Lines T.no_Lines__totals ?_
        walk_at "go"
        refine ⟨t, .int tt.2.1, rfl, by rw [← tot_taken]; exact DGet.k (k := .inr "taken") hL2.tot, ?_⟩
        walk_at "go"
        refine ⟨_, DPut.k (k := .inr "taken") hL2.tot (tot_len _), ?_⟩
        rw [put_taken]
        have hL3 := hL2.putT (tt' := (tt.1, tt.2.1 + 1, tt.2.2.1, tt.2.2.2))
        have hQ3 := lol_t (o := .dK (totV (tt.1, tt.2.1 + 1, tt.2.2.1, tt.2.2.2))) hL2 hQ2
        have f3 : Fr [t] H (upd H2 t (.dK (totV (tt.1, tt.2.1 + 1, tt.2.2.1, tt.2.2.2)))) := (Fr.of s2).put (by simp)
        generalize upd H2 t (.dK (totV (tt.1, tt.2.1 + 1, tt.2.2.1, tt.2.2.2))) = H3 at hL3 hQ3 f3 ⊢
        clear hL2 hQ2
        walk_at "go"
        refine hL3.fq T.cl_Lines T.no_Lines__queues ?_
        walk_at "go"
        rename_i T0 hT
        have s4 := same_new (o := .tup [.int s, .int r]) hT
        have hL4 := hL3.same s4
        have hQ4 := hQ3.same s4
        have f4 := f3.same s4
        have eT : upd H3 T0 (.tup [.int s, .int r]) T0 = _ := upd_same
        generalize upd H3 T0 (.tup [.int s, .int r]) = H4 at hL4 hQ4 f4 eT ⊢
        refine hL4.dg hp eT ?_
        obtain ⟨qs, eq, hq⟩ := hQ4
        have lq := prd_len hq
        walk_at "go"
        obtain ⟨L, e, hL5, he, nL, eL⟩ := prd_get hq i.toNat (by omega)
        refine ⟨dq (s, r), _, i, i.toNat, .ref L, rfl, rfl, eq, by omega, by omega, by rw [List.length_map, lq]; exact seqI i0 i1, by rw [List.getElem?_map, hL5]; rfl, ?_⟩
        rw [map_erase]
        have nM : ∀ p, ¬ M p → p ≠ dq (s, r) := fun p g z => g (by rw [z]; exact hMd)
        refine k2 _ L e ((f4.mono (S' := [t, dq (s, r)]) (by simp)).put (by simp)) (hL4.putL eq) ⟨_, upd_same, prd_imp (fun p c g => ⟨g.1, by rw [upd_ne (nM p g.1)]; exact g.2⟩) (prd_erase i.toNat hq)⟩ he nL (by rw [upd_ne (nM L nL)]; exact eL)
theorem ok_Lines_drop (T : Txt K mg)  (m_Lines__waits : C8.Met P w K mg base 1 (He.ga K "Lines") "_waits" (sp_Lines__waits K) []) {f : Addr} {fd : FuncData} (F : FunD K "drop" "Lines.drop" (defArgs s_Lines_drop) (defBody s_Lines_drop) (defScope s_Lines_drop) [] [] f fd) : FnOk P w K mg base CX0 2 f fd ["self", "source", "target", "index"] (sp_Lines_drop K) := by
  refine F.ok sc_Lines_drop (fun vs H Q E h => ?_) (fun cdv A outer s H vs Q E hr h => ?_)
  · obtain ⟨_, _, _, _, rfl, _⟩ := h
    rfl
  · have S := sc_Lines_drop
    refine ⟨_, PSs.nox (pss_cons (ps_if (pt_not (pt_val (C8.pe_mt m_Lines__waits hr (by decide) (pv 0) (pa_cons (pv 1) (pa_cons (pv 2) (pa_cons (pv 3) pa_nil))))))
    (pss_one (ps_ret pe_bl))
    pss_nil)
    (pss_cons (ps_delL (pe_dget (hu_of hr) (pe_fld (pv 0) rfl) (pe_tup (pa_cons (pv 1) (pa_cons (pv 2) pa_nil))) (fun _ _ => rfl)) (pv 3))
    (pss_cons (ps_daug (hu_of hr) (pe_fld (pv 0) rfl) pe_str pe_int in_add (fun _ _ _ => rfl))
    (pss_one (ps_ret pe_bl))))), ?_⟩
    try dsimp only [cxOf, Cx.nox]
    obtain ⟨_, _, _, _, rfl, a, c, t, q, n, kvs, tt, ps, dq, s, r, i, M, ls, rfl, rfl, rfl, rfl, hL, hp, hQ, hl, hMd, k1, k2⟩ := h
    walk_at "go"
    refine hL.me (by decide) ?_
    walk_at "go"
    refine ⟨_, _, _, _, rfl, a, c, t, q, n, kvs, tt, ps, dq, s, r, i, M, ls, rfl, rfl, rfl, rfl, hL, hp, hQ, fun H2 s2 => ?_⟩
    have hL2 := hL.same s2
    have hQ2 := hQ.same s2
    walk_at "go"
    refine i_nb (fun hs => ?_) (fun hs => ?_)
    · walk_at "go"
      exact k1 hs _ s2
    · obtain ⟨i0, i1⟩ := spot_iff hs
      have k2 := k2 hs
      have f2 : Fr [] H H2 := Fr.of s2
      walk_at "go"
      refine hL2.fq T.cl_Lines T.no_Lines__queues ?_
      walk_at "go"
      rename_i T0 hT
      have s4 := same_new (o := .tup [.int s, .int r]) hT
      have hL4 := hL2.same s4
      have hQ4 := hQ2.same s4
      have f4 := f2.same s4
      have eT : upd H2 T0 (.tup [.int s, .int r]) T0 = _ := upd_same
      generalize upd H2 T0 (.tup [.int s, .int r]) = H4 at hL4 hQ4 f4 eT ⊢
      refine hL4.dg hp eT ?_
      obtain ⟨qs, eq, hq⟩ := hQ4
      have lq := prd_len hq
      walk_at "go"
      refine ⟨dq (s, r), _, i, i.toNat, rfl, rfl, eq, by omega, by omega, by rw [List.length_map, lq]; exact seqI i0 i1, ?_⟩
      rw [map_erase]
      have nM : ∀ p, ¬ M p → p ≠ dq (s, r) := fun p g z => g (by rw [z]; exact hMd)
      have hQ5 : Lol M (upd H4 (dq (s, r)) (.lst ((qs.eraseIdx i.toNat).map V.ref))) (dq (s, r)) (ls.eraseIdx i.toNat) := ⟨_, upd_same, prd_imp (fun p c g => ⟨g.1, by rw [upd_ne (nM p g.1)]; exact g.2⟩) (prd_erase i.toNat hq)⟩
      have hL5 := hL4.putL (l' := (qs.eraseIdx i.toNat).map V.ref) eq
      have f5 : Fr [t, dq (s, r)] H (upd H4 (dq (s, r)) (.lst ((qs.eraseIdx i.toNat).map V.ref))) := (f4.mono (by simp)).put (by simp)
      generalize upd H4 (dq (s, r)) (.lst ((qs.eraseIdx i.toNat).map V.ref)) = H5 at hQ5 hL5 f5 ⊢
      walk_at "go"
      refine hL5.ft T.cl_Lines T.no_Lines__totals ?_
      walk_at "go"
      refine ⟨t, .int tt.2.2.2, rfl, by rw [← tot_lost]; exact DGet.k (k := .inr "lost") hL5.tot, ?_⟩
      walk_at "go"
      refine ⟨_, DPut.k (k := .inr "lost") hL5.tot (tot_len _), ?_⟩
      rw [put_lost]
      walk_at "go"
      exact k2 _ (f5.put (by simp)) hL5.putT (lol_t hL5 hQ5)
theorem ok_Lines_double (T : Txt K mg)  (m_Lines__waits : C8.Met P w K mg base 1 (He.ga K "Lines") "_waits" (sp_Lines__waits K) []) {f : Addr} {fd : FuncData} (F : FunD K "double" "Lines.double" (defArgs s_Lines_double) (defBody s_Lines_double) (defScope s_Lines_double) [] [] f fd) : FnOk P w K mg base CX0 2 f fd ["self", "source", "target", "index"] (sp_Lines_double K) := by
  refine F.ok sc_Lines_double (fun vs H Q E h => ?_) (fun cdv A outer s H vs Q E hr h => ?_)
  · obtain ⟨_, _, _, _, rfl, _⟩ := h
    rfl
  · have S := sc_Lines_double
    refine ⟨_, PSs.nox (pss_cons (ps_if (pt_not (pt_val (C8.pe_mt m_Lines__waits hr (by decide) (pv 0) (pa_cons (pv 1) (pa_cons (pv 2) (pa_cons (pv 3) pa_nil))))))
    (pss_one (ps_ret pe_bl))
    pss_nil)
    (pss_cons (ps_set (i := 4) S.nd rfl (by first | exact .inl rfl | exact .inr rfl) (pe_dget (hu_of hr) (pe_fld (pv 0) rfl) (pe_tup (pa_cons (pv 1) (pa_cons (pv 2) pa_nil))) (fun _ _ => rfl)))
    (pss_cons (ps_expr (pe_bm PySem.F.plainAttrs_list PySem.F.slot_list_append PySem.F.type_list_append mt_append (pv 4) (pa_cons (pe_callTy call_list_of (by rfl) T.f_list (by first | rfl | decide +kernel) (pa_cons (pe_ix ix_list (pv 4) (pv 3) (fun _ _ => rfl)) pa_nil)) pa_nil)))
    (pss_cons (ps_daug (hu_of hr) (pe_fld (pv 0) rfl) pe_str pe_int in_add (fun _ _ _ => rfl))
    (pss_one (ps_ret pe_bl)))))), ?_⟩
    try dsimp only [cxOf, Cx.nox]
    obtain ⟨_, _, _, _, rfl, a, c, t, q, n, kvs, tt, ps, dq, s, r, i, M, ls, rfl, rfl, rfl, rfl, hL, hp, hQ, hl, hMd, hM, k1, k2⟩ := h
    walk_at "go"
    refine hL.me (by decide) ?_
    walk_at "go"
    refine ⟨_, _, _, _, rfl, a, c, t, q, n, kvs, tt, ps, dq, s, r, i, M, ls, rfl, rfl, rfl, rfl, hL, hp, hQ, fun H2 s2 => ?_⟩
    have hL2 := hL.same s2
    have hQ2 := hQ.same s2
    walk_at "go"
    refine i_nb (fun hs => ?_) (fun hs => ?_)
    · walk_at "go"
      exact k1 hs _ s2
    · obtain ⟨i0, i1⟩ := spot_iff hs
      have k2 := k2 hs
      walk_at "go"
      refine hL2.fq T.cl_Lines T.no_Lines__queues ?_
      walk_at "go"
      rename_i T0 hT
      have s4 := same_new (o := .tup [.int s, .int r]) hT
      have hL4 := hL2.same s4
      have hQ4 := hQ2.same s4
      have f4 := s2.trans s4
      have eT : upd H2 T0 (.tup [.int s, .int r]) T0 = _ := upd_same
      generalize upd H2 T0 (.tup [.int s, .int r]) = H4 at hL4 hQ4 f4 eT ⊢
      refine hL4.dg hp eT ?_
      obtain ⟨qs, eq, hq⟩ := hQ4
      have lq := prd_len hq
      obtain ⟨L, e, hL5, he, nL, eL⟩ := prd_get hq i.toNat (by omega)
      walk_at "go"
      refine e_ixL (v := .ref L) (SqL.of eq) (at_of (j := i.toNat) (by omega) (by rw [List.getElem?_map, hL5]; rfl)) ?_
      walk_at "go"
      intro N hN
      have s5 := same_new (o := .lst (e.map V.int)) hN
      have eq5 := s5 _ _ eq
      walk_at "go"
      refine e_app eq5 (small (by rw [List.length_map]; omega : _ ≤ 1000) (by decide)) ?_
      have nM : ∀ p, ¬ M p → p ≠ dq (s, r) := fun p g z => g (by rw [z]; exact hMd)
      have nN : ¬ M N := fun m => by
        have h0 := hM N m
        cases e : H N with
        | none => exact h0 e
        | some o => rw [f4 _ _ e] at hN; cases hN
      have hQ5 : Lol M (upd (upd H4 N (.lst (e.map V.int))) (dq (s, r)) (.lst (qs.map V.ref ++ [.ref N]))) (dq (s, r)) (ls ++ [e]) := ⟨qs ++ [N], by rw [upd_same, List.map_append]; rfl, prd_snoc (prd_imp (fun p c g => ⟨g.1, by rw [upd_ne (nM p g.1)]; exact s5 _ _ g.2⟩) hq) ⟨nN, by rw [upd_ne (nM N nN)]; exact upd_same⟩⟩
      have hL5 := (hL4.same s5).putL (l' := qs.map V.ref ++ [.ref N]) eq5
      have f5 : Fr [t, dq (s, r)] H (upd (upd H4 N (.lst (e.map V.int))) (dq (s, r)) (.lst (qs.map V.ref ++ [.ref N]))) := (Fr.of (f4.trans s5)).put (by simp)
      generalize upd (upd H4 N (.lst (e.map V.int))) (dq (s, r)) (.lst (qs.map V.ref ++ [.ref N])) = H5 at hQ5 hL5 f5 ⊢
      walk_at "go"
      refine hL5.ft T.cl_Lines T.no_Lines__totals ?_
      walk_at "go"
      refine ⟨t, .int tt.2.2.1, rfl, by rw [← tot_doubled]; exact DGet.k (k := .inr "doubled") hL5.tot, ?_⟩
      walk_at "go"
      refine ⟨_, DPut.k (k := .inr "doubled") hL5.tot (tot_len _), ?_⟩
      rw [put_doubled]
      walk_at "go"
      exact k2 _ e (f5.put (by simp)) hL5.putT he (lol_t hL5 hQ5)
theorem ok_Lines_swap (T : Txt K mg)  (m_Lines__waits : C8.Met P w K mg base 1 (He.ga K "Lines") "_waits" (sp_Lines__waits K) []) {f : Addr} {fd : FuncData} (F : FunD K "swap" "Lines.swap" (defArgs s_Lines_swap) (defBody s_Lines_swap) (defScope s_Lines_swap) [] [] f fd) : FnOk P w K mg base CX0 2 f fd ["self", "source", "target", "index"] (sp_Lines_swap K) := by
  refine F.ok sc_Lines_swap (fun vs H Q E h => ?_) (fun cdv A outer s H vs Q E hr h => ?_)
  · obtain ⟨_, _, _, _, rfl, _⟩ := h
    rfl
  · have S := sc_Lines_swap
    refine ⟨_, PSs.nox (pss_cons (ps_if (pw_or (pt_not (pt_val (C8.pe_mt m_Lines__waits hr (by decide) (pv 0) (pa_cons (pv 1) (pa_cons (pv 2) (pa_cons (pv 3) pa_nil)))))) (pw_or1 (pt_not (pt_val (C8.pe_mt m_Lines__waits hr (by decide) (pv 0) (pa_cons (pv 1) (pa_cons (pv 2) (pa_cons (pe_op op_add (pv 3) pe_int) pa_nil)))))))).pt
    (pss_one (ps_ret pe_bl))
    pss_nil)
    (pss_cons (ps_set (i := 4) S.nd rfl (by first | exact .inl rfl | exact .inr rfl) (pe_dget (hu_of hr) (pe_fld (pv 0) rfl) (pe_tup (pa_cons (pv 1) (pa_cons (pv 2) pa_nil))) (fun _ _ => rfl)))
    (pss_cons (ps_asg (pe_tup (pa_cons (pe_ix ix_list (pv 4) (pe_op op_add (pv 3) pe_int) (fun _ _ => rfl)) (pa_cons (pe_ix ix_list (pv 4) (pv 3) (fun _ _ => rfl)) pa_nil))) (pg_tup rfl (pgs_cons (pg_sub (pv 4) (pv 3) set_list) (pgs_cons (pg_sub (pv 4) (pe_op op_add (pv 3) pe_int) set_list) pgs_nil))))
    (pss_one (ps_ret pe_bl))))), ?_⟩
    try dsimp only [cxOf, Cx.nox]
    obtain ⟨_, _, _, _, rfl, a, c, t, q, n, kvs, tt, ps, dq, s, r, i, M, ls, rfl, rfl, rfl, rfl, hL, hp, hQ, hl, hMd, k1, k2⟩ := h
    walk_at "go"
    refine hL.me (by decide) ?_
    walk_at "go"
    refine ⟨_, _, _, _, rfl, a, c, t, q, n, kvs, tt, ps, dq, s, r, i, M, ls, rfl, rfl, rfl, rfl, hL, hp, hQ, fun H1 s1 => ?_⟩
    have hL1 := hL.same s1
    have hQ1 := hQ.same s1
    walk_at "go"
    refine i_nb (fun hs => ?_) (fun hs => ?_)
    · walk_at "go"
      exact k1 (by rw [hs]; rfl) _ s1
    · walk_at "go"
      refine hL1.me (by decide) ?_
      walk_at "go"
      refine ⟨_, _, _, _, rfl, a, c, t, q, n, kvs, tt, ps, dq, s, r, i + 1, M, ls, rfl, rfl, rfl, rfl, hL1, hp, hQ1, fun H2 s2 => ?_⟩
      have hL2 := hL1.same s2
      have hQ2 := hQ1.same s2
      have s2 := s1.trans s2
      walk_at "go"
      refine i_nb (fun hs2 => ?_) (fun hs2 => ?_)
      · walk_at "go"
        exact k1 (by rw [hs, hs2]; rfl) _ s2
      · have k2 := k2 (by rw [hs, hs2]; rfl)
        obtain ⟨i0, i1⟩ := spot_iff hs
        obtain ⟨j0, j1⟩ := spot_iff hs2
        walk_at "go"
        refine hL2.fq T.cl_Lines T.no_Lines__queues ?_
        walk_at "go"
        rename_i T0 hT
        have s4 := same_new (o := .tup [.int s, .int r]) hT
        have hL4 := hL2.same s4
        have hQ4 := hQ2.same s4
        have f4 := s2.trans s4
        have eT : upd H2 T0 (.tup [.int s, .int r]) T0 = _ := upd_same
        generalize upd H2 T0 (.tup [.int s, .int r]) = H4 at hL4 hQ4 f4 eT ⊢
        refine hL4.dg hp eT ?_
        obtain ⟨qs, eq, hq⟩ := hQ4
        have lq := prd_len hq
        obtain ⟨L, e, hL5, he, nL, eL⟩ := prd_get hq i.toNat (by omega)
        obtain ⟨L2, f, hL6, hf, nL2, eL2⟩ := prd_get hq (i.toNat + 1) (by omega)
        walk_at "go"
        refine e_ixL (v := .ref L2) (SqL.of eq) (at_of (j := i.toNat + 1) (by omega) (by rw [List.getElem?_map, hL6]; rfl)) ?_
        walk_at "go"
        refine e_ixL (v := .ref L) (SqL.of eq) (at_of (j := i.toNat) (by omega) (by rw [List.getElem?_map, hL5]; rfl)) ?_
        walk_at "go"
        rename_i T1 hT1
        have s5 := same_new (o := .tup [.ref L2, .ref L]) hT1
        have eq5 := s5 _ _ eq
        have hL8 := hL4.same s5
        have hq8 : Ltr M (upd H4 T1 (.tup [.ref L2, .ref L])) qs ls := prd_imp (fun p c g => ⟨g.1, s5 _ _ g.2⟩) hq
        have f8 := f4.trans s5
        have nL' : ¬ M L ∧ upd H4 T1 (.tup [.ref L2, .ref L]) L = some (.lst (e.map V.int)) := ⟨nL, s5 _ _ eL⟩
        have nL2' : ¬ M L2 ∧ upd H4 T1 (.tup [.ref L2, .ref L]) L2 = some (.lst (f.map V.int)) := ⟨nL2, s5 _ _ eL2⟩
        generalize upd H4 T1 (.tup [.ref L2, .ref L]) = H8 at eq5 hL8 hq8 f8 nL' nL2' ⊢
        refine e_setL (j := i.toNat) eq5 (ixN_in i0 (by rw [List.length_map, lq]; exact i1)) ?_
        rw [map_set]
        walk_at "go"
        refine e_setL (j := i.toNat + 1) upd_same (by rw [ixN_in j0 (by rw [List.length_map, List.length_set, lq]; exact j1)]; congr 1; omega) ?_
        rw [map_set, upd_upd]
        walk_at "go"
        have nM : ∀ p, ¬ M p → p ≠ dq (s, r) := fun p g z => g (by rw [z]; exact hMd)
        refine k2 _ e f ((Fr.of f8).put (by simp)) (hL8.putL eq5) he hf ⟨_, upd_same, ?_⟩
        have g := prd_set (R := fun p (c : List Int) => ¬ M p ∧ H8 p = some (.lst (c.map V.int))) nL' (i.toNat + 1) (prd_set (R := fun p (c : List Int) => ¬ M p ∧ H8 p = some (.lst (c.map V.int))) nL2' i.toNat hq8)
        exact prd_imp (fun p c g => ⟨g.1, by rw [upd_ne (nM p g.1)]; exact g.2⟩) g
theorem ok_Lines__waits (T : Txt K mg)   {f : Addr} {fd : FuncData} (F : FunD K "_waits" "Lines._waits" (defArgs s_Lines__waits) (defBody s_Lines__waits) (defScope s_Lines__waits) [] [] f fd) : FnOk P w K mg base CX0 1 f fd ["self", "source", "target", "index"] (sp_Lines__waits K) := by
  refine F.ok sc_Lines__waits (fun vs H Q E h => ?_) (fun cdv A outer s H vs Q E hr h => ?_)
  · obtain ⟨_, _, _, _, rfl, _⟩ := h
    rfl
  · have S := sc_Lines__waits
    refine ⟨_, PSs.nox (pss_one (ps_ret (pe_chain op_le op_lt pe_int (pv 3) (pe_callB call_len_seq (by rfl) T.f_len (by first | rfl | decide +kernel) (pa_cons (pe_dget (hu_of hr) (pe_fld (pv 0) rfl) (pe_tup (pa_cons (pv 1) (pa_cons (pv 2) pa_nil))) (fun _ _ => rfl)) pa_nil))))), ?_⟩
    try dsimp only [cxOf, Cx.nox]
    obtain ⟨_, _, _, _, rfl, a, c, t, q, n, kvs, tt, ps, dq, s, r, i, M, ls, rfl, rfl, rfl, rfl, hL, hp, hQ, k⟩ := h
    obtain ⟨qs, eq, hq⟩ := id hQ
    have lq := prd_len hq
    walk_at "go"
    refine i_d (fun h1 => ?_) (fun h1 => ?_)
    · walk_at "go"
      refine hL.fq T.cl_Lines T.no_Lines__queues ?_
      walk_at "go"
      rename_i T0 hT
      have s1 := same_new (o := .tup [.int s, .int r]) hT
      have eq1 := s1 _ _ eq
      refine (hL.same s1).dg hp upd_same ?_
      walk_at "go"
      have e : decide (i < (((qs.map V.ref).length : Nat) : Int)) = spot i ls.length := by
        unfold spot
        rw [decide_eq_true h1, List.length_map, lq]
        rfl
      rw [e]
      exact k _ s1
    · have e : false = spot i ls.length := by
        unfold spot
        rw [decide_eq_false h1]
        rfl
      rw [e]
      exact k _ (Same.refl _)
theorem ok_Lines_total (T : Txt K mg)   {f : Addr} {fd : FuncData} (F : FunD K "total" "Lines.total" (defArgs s_Lines_total) (defBody s_Lines_total) (defScope s_Lines_total) [] [] f fd) : FnOk P w K mg base CX0 1 f fd ["self", "word"] (sp_Lines_total K) := by
  refine F.ok sc_Lines_total (fun vs H Q E h => ?_) (fun cdv A outer s H vs Q E hr h => ?_)
  · obtain ⟨_, _, rfl, _⟩ := h
    rfl
  · have S := sc_Lines_total
    refine ⟨_, PSs.nox (pss_cons (ps_if (pt_cmpR op_eq (pv 1) pe_str (nomark _))
    (pss_one (ps_ret (pe_callB (cr_sum rfl) (by rfl) T.f_sum (by first | rfl | decide +kernel) (pa_cons (pe_lock (pe_lc (own := [("queue", 2)]) (g := gName 2) (tt := tYes) rfl S.nd (pi_valuesT (pe_fld (pv 0) rfl)) (blkOk_by (N := N_Lines_total) (sc := defScope s_Lines_total) (by decide +kernel)) (fun _ _ _ _ _ => (pg_name (i := 2) S.nd rfl (by first | exact .inl rfl | exact .inr rfl))) (fun _ _ _ _ _ => pts_nil) (fun _ _ _ _ _ => (pe_callB (lenSK K) (by rfl) T.f_len (by first | rfl | decide +kernel) (pa_cons (pv 2) pa_nil))))) pa_nil))))
    pss_nil)
    (pss_one (ps_ret (pe_dget (hu_of hr) (pe_fld (pv 0) rfl) (pv 1) (fun _ _ => rfl))))), ?_⟩
    try dsimp only [cxOf, Cx.nox]
    obtain ⟨_, _, rfl, a, c, t, q, n, kvs, tt, ps, dq, w, rfl, rfl, hL, hz, k⟩ := h
    rcases k with ⟨hw, M, Qf, hQ, k⟩ | ⟨hw, v, hv, k⟩
    · subst hw
      walk_at "go"
      refine i_self ?_
      walk_at "go"
      refine ⟨q, .dT (rows ps dq), hL.que, trivial, fun od => ?_⟩
      obtain ⟨n1, n2, n3, n4, n5⟩ := hL.na
      obtain ⟨dx, fs, h1, h2, h3, h4, h5, h6⟩ := hL.ins
      have fq : Fr [q] H (upd H q (.frz od (.dT (rows ps dq)))) := (Fr.refl _ _).put (by simp)
      walk_at "go"
      refine ⟨a, _, dx, fs, _, rfl, by rw [upd_ne n3]; exact h1, T.cl_Lines, T.no_Lines__queues, h5, ?_⟩
      walk_at "go"
      refine ⟨q, od, rows ps dq, rfl, upd_same, fun D hD => ?_⟩
      have nDq : q ≠ D := fun z => by rw [← z, upd_same] at hD; cases hD
      refine lc_it walk_valsT (fun i H2 => Same (upd H q (.frz od (.dT (rows ps dq)))) H2 ∧ H2 D = some (.lst ((ps.take i).map fun p => V.int (((Qf p).length : Nat) : Int)))) ⟨same_new hD, upd_same⟩ (fun i H2 _ z => z.1 _ _ upd_same) (fun i x H2 H3 hi z y => ?_) (fun H2 z => ?_)
      · obtain ⟨rfl, kk, hk⟩ := y
        obtain ⟨s2, e2⟩ := z
        have hi : i < ps.length := by unfold rows at hi; rw [List.length_map] at hi; exact hi
        have ek : ps[i]? = some ps[i] := List.getElem?_eq_getElem hi
        unfold rows at hk
        rw [List.getElem?_map, ek] at hk
        have ex : x = .ref (dq ps[i]) := by
          have := Option.some.inj hk
          injection this with _ this
          exact this.symm
        subst ex
        obtain ⟨qs, eq, lq⟩ := (hQ ps[i] (List.getElem_mem hi)).lst
        have eq2 := s2 _ _ (fq _ _ (by simp only [List.mem_singleton]; exact (hL.nl eq).2.2.2) eq)
        walk_at "go"
        refine ⟨_, e2, small (by rw [List.length_map]; exact Nat.le_trans (List.length_take_le _ _) (by omega) : _ ≤ 1000) (by decide), Same.mut s2 hD, ?_⟩
        rw [upd_same, List.take_add_one, ek, List.map_append]
        simp only [List.length_map, lq]
        rfl
      · obtain ⟨s2, e2⟩ := z
        refine ⟨s2 _ _ upd_same, ?_⟩
        have lr : (rows ps dq).length = ps.length := by unfold rows; rw [List.length_map]
        rw [lr, List.take_length] at e2
        have s3 := unlock hL.que s2
        walk_at "go"
        refine ⟨D, ps.map fun p => (((Qf p).length : Nat) : Int), rfl, SqL.of (by rw [upd_ne nDq.symm, e2, List.map_map]; rfl), ?_⟩
        exact k _ s3
    · walk_at "go"
      refine i_d (fun z => absurd z hw) (fun _ => ?_)
      walk_at "go"
      refine hL.ft T.cl_Lines T.no_Lines__totals ?_
      walk_at "go"
      refine ⟨t, _, rfl, ?_, k⟩
      rw [← hv]
      exact DGet.k (k := .inr w) hL.tot
theorem ok_line (T : Txt K mg)   {f : Addr} {fd : FuncData} (F : FnP K "_line" s_line f fd) : FnOk P w K mg base CX0 1 f fd ["first", "second"] (sp_line K) := by
  refine F.ok sc_line (fun vs H Q E h => ?_) (fun cdv A outer s H vs Q E hr h => ?_)
  · obtain ⟨_, _, rfl, _⟩ := h
    rfl
  · have S := sc_line
    refine ⟨_, PSs.nox (pss_one (ps_ret (pe_tup (pa_cons (pe_callB (call_min2 rfl) (by rfl) T.f_min (by first | rfl | decide +kernel) (pa_cons (pv 0) (pa_cons (pv 1) pa_nil))) (pa_cons (pe_callB (call_max2 rfl) (by rfl) T.f_max (by first | rfl | decide +kernel) (pa_cons (pv 0) (pa_cons (pv 1) pa_nil))) pa_nil))))), ?_⟩
    try dsimp only [cxOf, Cx.nox]
    obtain ⟨_, _, rfl, p, q, rfl, rfl, k⟩ := h
    walk_at "go"
    refine ⟨_, _, rfl, ?_⟩
    walk_at "go"
    refine ⟨_, _, rfl, ?_⟩
    walk_at "go"
    rename_i T hT
    exact k T _ (same_new hT) upd_same
theorem ok_law_draw (T : Txt K mg)   {f : Addr} {fd : FuncData} (F : FnP K "_law_draw" s_law_draw f fd) : FnOk P w K mg base CX0 1 f fd ["state", "script", "size"] (spDraw K) := by
  refine F.ok sc_law_draw (fun vs H Q E h => ?_) (fun cdv A outer s H vs Q E hr h => ?_)
  · obtain ⟨_, _, _, rfl, _⟩ := h
    rfl
  · have S := sc_law_draw
    refine ⟨_, PSs.nox (C8.pss_cut (ps_if (pt_cmpR op_eq (pe_ix ix_list (pv 0) pe_int (fun _ _ => rfl)) pe_int (nomark _))
    (pss_cons (ps_set (i := 3) S.nd rfl (by first | exact .inl rfl | exact .inr rfl) (pe_ix ix_list (pv 0) pe_int (fun _ _ => rfl)))
      (pss_cons (ps_set (i := 4) S.nd rfl (by first | exact .inl rfl | exact .inr rfl) pe_int)
      (C8.pss_cut (ps_if (pt_cmpR op_gt (pe_callB call_len_seq (by rfl) T.f_len (by first | rfl | decide +kernel) (pa_cons (pv 1) pa_nil)) pe_int (nomark _))
      (pss_one (ps_set (i := 4) S.nd rfl (by first | exact .inl rfl | exact .inr rfl) (pe_callTy call_int1 (by rfl) T.f_int (by first | rfl | decide +kernel) (pa_cons (pe_ix ix_list (pv 1) (pe_op op_mod (pv 3) (pe_callB call_len_seq (by rfl) T.f_len (by first | rfl | decide +kernel) (pa_cons (pv 1) pa_nil))) (fun _ _ => rfl)) pa_nil))))
      pss_nil)
      (C8.pss_cut (ps_if (pt_cmpR op_lt (pv 4) pe_int (nomark _))
      (pss_one (ps_set (i := 4) S.nd rfl (by first | exact .inl rfl | exact .inr rfl) (pe_op op_sub pe_int (pe_op op_mul pe_int (pv 4)))))
      pss_nil)
      (C8.pss_cut (ps_if (pw_and (pt_cmpR op_ge (pv 4) (pe_op op_pow pe_int pe_int) (nomark _)) (pw_and1 (pt_cmpR op_lt (pv 3) (pe_callB call_len_seq (by rfl) T.f_len (by first | rfl | decide +kernel) (pa_cons (pv 1) pa_nil)) (nomark _)))).pt
      (pss_one (ps_asg (pv 4) (pg_sub (pv 0) pe_int set_list)))
      (pss_cons (ps_set (i := 5) S.nd rfl (by first | exact .inl rfl | exact .inr rfl) (pe_op op_mod (pe_callTy call_int1 (by rfl) T.f_int (by first | rfl | decide +kernel) (pa_cons (pe_op op_add (pe_op op_add (pe_op op_mul (pv 4) pe_int) (pe_op op_mul (pv 3) pe_int)) pe_int) pa_nil)) pe_int))
        (pss_one (ps_asg (pe_op op_add pe_int (pe_op op_mod (pe_callTy call_int1 (by rfl) T.f_int (by first | rfl | decide +kernel) (pa_cons (pe_op op_add (pe_op op_mul (pv 5) pe_int) (pe_op op_mul (pv 3) pe_int)) pa_nil)) pe_int)) (pg_sub (pv 0) pe_int set_list)))))
      (pss_one (ps_asg (pe_op op_add (pv 3) pe_int) (pg_sub (pv 0) pe_int set_list))))))))
    pss_nil)
    (pss_cons (ps_set (i := 6) S.nd rfl (by first | exact .inl rfl | exact .inr rfl) (pe_op op_mod (pe_callTy call_int1 (by rfl) T.f_int (by first | rfl | decide +kernel) (pa_cons (pe_ix ix_list (pv 0) pe_int (fun _ _ => rfl)) pa_nil)) (pv 2)))
    (pss_cons (ps_asg (pe_op op_fdivW (pe_ix ix_list (pv 0) pe_int (fun _ _ => rfl)) (pv 2)) (pg_sub (pv 0) pe_int set_list))
    (pss_one (ps_ret (pv 6)))))), ?_⟩
    try dsimp only [cxOf, Cx.nox]
    obtain ⟨_, _, _, rfl, st, sc, ns, n, rfl, rfl, rfl, d, hn0, hn1, k⟩ := h
    obtain ⟨ia, ib, ha0, hb0, hs⟩ := d.s
    have h1 : ∀ (x y : Int), 0 ≤ x → 0 ≤ y → Kp st H (upd H st (.lst [.int x, .int y])) ∧ Dr K st sc ns (upd H st (.lst [.int x, .int y])) := fun x y hx hy =>
      have k1 : Kp st H (upd H st (.lst [.int x, .int y])) := Kp.put (Kp.refl st H)
      ⟨k1, d.kp k1 ⟨x, y, hx, hy, upd_same⟩⟩
    refine e_cut (Mid := fun σ' H' => ∃ (v3 v4 v5 : Option V), σ' = [some (.ref st), some (.ref sc), some (.int n), v3, v4, v5, none] ∧ Kp st H H' ∧ Dr K st sc ns H') ?_ ?_
    · walk_at "go"
      refine e_ixL (SqL.of hs) rfl ?_
      walk_at "go"
      refine i_d (fun e => ?_) (fun e => ?_)
      · walk_at "go"
        refine e_ixL (SqL.of hs) rfl ?_
        walk_at "go"
        -- cell = int(script[at % len(script)])
        refine e_cut (Mid := fun σ' H' => ∃ c : Int, σ' = [some (.ref st), some (.ref sc), some (.int n), some (.int ia), some (.int c), none, none] ∧ H' = H) ?_ ?_
        · walk_at "go"
          refine i_d (fun e2 => ?_) (fun e2 => ?_)
          · walk_at "go"
            have hm : 0 ≤ ia % (((ns.map V.int).length : Nat) : Int) := Int.emod_nonneg _ (by omega)
            have hm2 : ia % (((ns.map V.int).length : Nat) : Int) < (((ns.map V.int).length : Nat) : Int) := Int.emod_lt_of_pos _ (by omega)
            have hlt : (ia % (((ns.map V.int).length : Nat) : Int)).toNat < ns.length := by rw [List.length_map] at hm hm2 ⊢; omega
            refine e_ixL (v := .int ns[(ia % (((ns.map V.int).length : Nat) : Int)).toNat]) d.seq (at_of (j := (ia % (((ns.map V.int).length : Nat) : Int)).toNat) (by omega) (by rw [List.getElem?_map, List.getElem?_eq_getElem hlt]; rfl)) ?_
            walk_at "go"
            exact ⟨_, rfl, rfl⟩
          · walk_at "go"
            exact ⟨_, rfl, rfl⟩
        · rintro σ' H' ⟨c, rfl, rfl⟩
          refine e_cut (Mid := fun σ' H'' => ∃ c : Int, 0 ≤ c ∧ σ' = [some (.ref st), some (.ref sc), some (.int n), some (.int ia), some (.int c), none, none] ∧ H'' = H') ?_ ?_
          · walk_at "go"
            refine i_d (fun e2 => ?_) (fun e2 => ?_)
            · walk_at "go"
              exact ⟨_, by omega, rfl, rfl⟩
            · walk_at "go"
              exact ⟨_, by omega, rfl, rfl⟩
          · rintro σ' H'' ⟨c, hc, rfl, rfl⟩
            refine e_cut (Mid := fun σ' H3 => ∃ (v5 : Option V) (b : Int), 0 ≤ b ∧ σ' = [some (.ref st), some (.ref sc), some (.int n), some (.int ia), some (.int c), v5, none] ∧ H3 = upd H'' st (.lst [.int ia, .int b])) ?_ ?_
            · walk_at "go"
              have fin : ∀ (v5 : Option V) (b : Int), 0 ≤ b → ∃ (v5' : Option V) (b' : Int), 0 ≤ b' ∧ [some (V.ref st), some (V.ref sc), some (V.int n), some (V.int ia), some (V.int c), v5, none] = [some (.ref st), some (.ref sc), some (.int n), some (.int ia), some (.int c), v5', none] ∧ upd H'' st (HO.lst [V.int ia, V.int b]) = upd H'' st (.lst [.int ia, .int b']) := fun v5 b hb => ⟨v5, b, hb, rfl, rfl⟩
              have other : ∀ x : Int, 0 ≤ 1 + x % 2305843009213693951 := fun x => by
                have := Int.emod_nonneg x (show (2305843009213693951 : Int) ≠ 0 by decide)
                omega
              refine i_d (fun e2 => ?_) (fun e2 => ?_)
              · walk_at "go"
                refine i_d (fun e3 => ?_) (fun e3 => ?_)
                · walk_at "go"
                  refine e_setL hs rfl ?_
                  exact ⟨none, c, hc, rfl, by rw [e]; rfl⟩
                · walk_at "go"
                  refine e_setL hs rfl ?_
                  exact ⟨_, _, other _, rfl, rfl⟩
              · walk_at "go"
                refine e_setL hs rfl ?_
                exact ⟨_, _, other _, rfl, rfl⟩
            · rintro σ' H3 ⟨v5, b, hb, rfl, rfl⟩
              walk_at "go"
              refine e_setL upd_same rfl ?_
              rw [upd_upd]
              obtain ⟨k1, d1⟩ := h1 (ia + 1) b (by omega) hb
              exact ⟨_, _, _, rfl, k1, d1⟩
      · walk_at "go"
        exact ⟨_, _, _, rfl, Kp.refl _ _, d⟩
    · rintro σ' H' ⟨v3, v4, v5, rfl, k1, d1⟩
      obtain ⟨ja, jb, hja, hjb, hs1⟩ := d1.s
      walk_at "go"
      refine e_ixL (SqL.of hs1) rfl ?_
      walk_at "go"
      refine e_ixL (SqL.of hs1) rfl ?_
      walk_at "go"
      refine e_setL hs1 rfl ?_
      have hj2 : 0 ≤ jb / n := Int.ediv_nonneg hjb (by omega)
      have k2 : Kp st H (upd H' st (.lst [.int ja, .int (jb / n)])) := k1.put
      walk_at "go"
      exact k _ _ (Int.emod_nonneg _ (by omega)) (Int.emod_lt_of_pos _ hn0) k2 (d.kp k2 ⟨ja, jb / n, hja, hj2, upd_same⟩)
theorem ok_law_balanced (T : Txt K mg)  (m_Lines_total : C8.Met P w K mg base 1 (He.ga K "Lines") "total" (sp_Lines_total K) []) {f : Addr} {fd : FuncData} (F : FnP K "_law_balanced" s_law_balanced f fd) : FnOk P w K mg base CX0 2 f fd ["lines"] (sp_law_balanced K) := by
  refine F.ok sc_law_balanced (fun vs H Q E h => ?_) (fun cdv A outer s H vs Q E hr h => ?_)
  · obtain ⟨_, rfl, _⟩ := h
    rfl
  · have S := sc_law_balanced
    refine ⟨_, PSs.nox (pss_cons (ps_set (i := 1) S.nd rfl (by first | exact .inl rfl | exact .inr rfl) (pe_op op_add (C8.pe_mt m_Lines_total hr (by decide) (pv 0) (pa_cons pe_str pa_nil)) (C8.pe_mt m_Lines_total hr (by decide) (pv 0) (pa_cons pe_str pa_nil))))
    (pss_one (ps_ret (pe_cmpR op_eq (pv 1) (pe_op op_add (pe_op op_add (C8.pe_mt m_Lines_total hr (by decide) (pv 0) (pa_cons pe_str pa_nil)) (C8.pe_mt m_Lines_total hr (by decide) (pv 0) (pa_cons pe_str pa_nil))) (C8.pe_mt m_Lines_total hr (by decide) (pv 0) (pa_cons pe_str pa_nil))) (nomark _))))), ?_⟩
    try dsimp only [cxOf, Cx.nox]
    obtain ⟨_, rfl, w, z, rfl, F0, hV, hI, k⟩ := h
    have lz := allP_le F0.n9
    walk_at "go"
    refine hV.l.me (by decide) ?_
    walk_at "go"
    refine ⟨_, _, rfl, w.a, w.c, w.t, w.q, w.n, z.kvs, z.tt, _, w.dq, "sent", rfl, rfl, hV.l, lz, .inr ⟨by decide, _, tot_sent _, ?_⟩⟩
    walk_at "go"
    refine hV.l.me (by decide) ?_
    walk_at "go"
    refine ⟨_, _, rfl, w.a, w.c, w.t, w.q, w.n, z.kvs, z.tt, _, w.dq, "doubled", rfl, rfl, hV.l, lz, .inr ⟨by decide, _, tot_doubled _, ?_⟩⟩
    walk_at "go"
    refine hV.l.me (by decide) ?_
    walk_at "go"
    refine ⟨_, _, rfl, w.a, w.c, w.t, w.q, w.n, z.kvs, z.tt, _, w.dq, "taken", rfl, rfl, hV.l, lz, .inr ⟨by decide, _, tot_taken _, ?_⟩⟩
    walk_at "go"
    refine hV.l.me (by decide) ?_
    walk_at "go"
    refine ⟨_, _, rfl, w.a, w.c, w.t, w.q, w.n, z.kvs, z.tt, _, w.dq, "lost", rfl, rfl, hV.l, lz, .inr ⟨by decide, _, tot_lost _, ?_⟩⟩
    walk_at "go"
    refine hV.l.me (by decide) ?_
    walk_at "go"
    refine ⟨_, _, rfl, w.a, w.c, w.t, w.q, w.n, z.kvs, z.tt, _, w.dq, "waiting", rfl, rfl, hV.l, lz, .inl ⟨rfl, w.M z.rs, z.Q, hV.qd, fun H1 s1 => ?_⟩⟩
    walk_at "go"
    rw [decide_eq_true hI.bal]
    exact k H1 s1
theorem ok_law_sent (T : Txt K mg)  (m_Lines_send : C8.Met P w K mg base 3 (He.ga K "Lines") "send" (sp_Lines_send K) []) {f : Addr} {fd : FuncData} (F : FnP K "_law_sent" s_law_sent f fd) : FnOk P w K mg base CX0 4 f fd ["lines", "ledger", "source", "target"] (sp_law_sent K) := by
  refine F.ok sc_law_sent (fun vs H Q E h => ?_) (fun cdv A outer s H vs Q E hr h => ?_)
  · obtain ⟨_, _, _, _, rfl, _⟩ := h
    rfl
  · have S := sc_law_sent
    refine ⟨_, PSs.nox (pss_cons (ps_set (i := 4) S.nd rfl (by first | exact .inl rfl | exact .inr rfl) (pe_callB call_len_seq (by rfl) T.f_len (by first | rfl | decide +kernel) (pa_cons (pv 1) pa_nil)))
    (pss_cons (ps_set (i := 5) S.nd rfl (by first | exact .inl rfl | exact .inr rfl) (pe_lst (pa_cons (pe_op op_fdivW (pv 4) pe_int) (pa_cons (pe_op op_mod (pv 4) pe_int) (pa_cons (pv 2) pa_nil)))))
    (pss_cons (ps_expr (pe_bm PySem.F.plainAttrs_list PySem.F.slot_list_append PySem.F.type_list_append mt_append (pv 1) (pa_cons (pe_lst (pa_cons (pe_tup (pa_cons (pv 2) (pa_cons (pv 3) pa_nil))) (pa_cons pe_int pa_nil))) pa_nil)))
    (pss_one (ps_if (pt_val (C8.pe_mt m_Lines_send hr (by decide) (pv 0) (pa_cons (pv 2) (pa_cons (pv 3) (pa_cons (pv 5) pa_nil)))))
    (pss_one (ps_asg pe_int (pg_sub (pe_ix ix_list (pv 1) (pv 4) (fun _ _ => rfl)) pe_int set_list)))
    pss_nil))))), ?_⟩
    try dsimp only [cxOf, Cx.nox]
    obtain ⟨_, _, _, _, rfl, w, z, x, y, rfl, rfl, rfl, rfl, F0, hV, hI, hp, hz, hz2, k⟩ := h
    have hg := hV.g
    have lp := prd_len hV.pp
    walk_at "go"
    rw [List.length_map, lp]
    walk_at "go"
    rename_i D hD
    have s1 := same_new (o := .lst [.int (((z.led.length : Nat) : Int) / 7), .int (((z.led.length : Nat) : Int) % 7), .int x]) hD
    have hV1 := hV.same s1
    have eD : upd H D (.lst [.int (((z.led.length : Nat) : Int) / 7), .int (((z.led.length : Nat) : Int) % 7), .int x]) D = some (.lst ((ltr z.led.length x).map V.int)) := upd_same
    generalize upd H D (.lst [.int (((z.led.length : Nat) : Int) / 7), .int (((z.led.length : Nat) : Int) % 7), .int x]) = H1 at s1 hV1 eD ⊢
    clear hV hg
    have hg := hV1.g
    walk_at "go"
    rename_i P hP N hN
    have s2 := same_new (o := .tup [.int x, .int y]) hP
    have hV2 := hV1.same s2
    have eP : upd H1 P (.tup [.int x, .int y]) P = some (.tup [.int x, .int y]) := upd_same
    have eD2 := s2 _ _ eD
    generalize upd H1 P (.tup [.int x, .int y]) = H2 at hV2 eP eD2 hN ⊢
    have hg2 := same_new (o := .lst [.ref P, .int 0]) hN _ _ hV2.g
    refine e_app hg2 (small (by rw [List.length_map]; omega : _ ≤ 1000) (by decide)) ?_
    have hV3 := hV2.row F0 (p := (x, y)) (i := 0) eP hN
    have nDN : D ≠ N := ne_of_none eD2 hN
    have nDG : D ≠ w.G := fun e => by
      have := hV2.g
      rw [← e, eD2] at this
      injection this with this
      injection this with this
      cases hrs : z.rs with
      | nil => rw [hrs] at this; cases this
      | cons _ _ => rw [hrs] at this; cases this
    have eD3 : upd (upd H2 N (.lst [.ref P, .int 0])) w.G (.lst (z.rs.map V.ref ++ [.ref N])) D = some (.lst ((ltr z.led.length x).map V.int)) := by
      rw [upd_ne nDG, upd_ne nDN]; exact eD2
    generalize upd (upd H2 N (.lst [.ref P, .int 0])) w.G (.lst (z.rs.map V.ref ++ [.ref N])) = H3 at hV3 eD3 ⊢
    clear hV1 hV2 hg hg2 eD eD2 s1 s2 eP
    obtain ⟨z3, ez3⟩ : ∃ z3 : Vs, z3 = { z with rs := z.rs ++ [N], led := z.led ++ [((x, y), 0)] } := ⟨_, rfl⟩
    rw [← ez3] at hV3
    have e1 : z3.kvs = z.kvs := by rw [ez3]
    have e2 : z3.tt = z.tt := by rw [ez3]
    have e3 : z3.Q = z.Q := by rw [ez3]
    have hM : ∀ p ∈ allP w.n, w.M z3.rs (w.dq p) := fun p hp => .inl ⟨p, hp, rfl⟩
    walk_at "go"
    refine hV3.l.me (by decide) ?_
    walk_at "go"
    have hQ := hV3.qd _ hp
    refine ⟨_, _, _, _, rfl, w.a, w.c, w.t, w.q, w.n, z3.kvs, z3.tt, _, w.dq, x, y, D, ltr z.led.length x, w.M z3.rs, z3.Q (x, y), rfl, rfl, rfl, rfl, hV3.l, hp, hQ, SqL.of eD3, eD3, by rw [e3]; omega, hM _ hp, hV3.al, fun hc H4 f4 hL4 => ?_, fun hc H4 f4 hL4 hQ4 => ?_⟩
    · walk_at "go"
      have hQ4 := hQ.fr f4 (by simp only [List.mem_singleton]; exact lol_ne hV3.l hQ) (sep_t hV3.l)
      have hV4 := VL.call F0 hp hV3 (f4.mono (by simp)) hL4 hQ4
      refine k H4 _ hV4 ?_ e1 (fun p => ?_) ?_
      · rw [updQ_self]
        have := hI.lost hp (z.rs ++ [N])
        rw [ez3]
        exact this
      · rw [updQ_self, e3]; exact Nat.le_succ _
      · show z3.led.length ≤ _
        rw [ez3]
        show (z.led ++ _).length ≤ _
        rw [List.length_append, List.length_singleton]; exact Nat.le_refl _
    · have hV4 := VL.call F0 hp hV3 f4 hL4 hQ4
      have hrs : z3.rs = z.rs ++ [N] := by rw [ez3]
      have hled : z3.led = z.led ++ [((x, y), 0)] := by rw [ez3]
      have n1 : z3.rs[z.led.length]? = some N := by rw [hrs, ← lp]; simp
      have n2 : z3.led[z.led.length]? = some ((x, y), 0) := by rw [hled]; simp
      obtain ⟨r, e, g1, g2, g3⟩ := prd_get hV4.pp z.led.length (by show _ < z3.led.length; rw [hled]; simp)
      have g1 : z3.rs[z.led.length]? = some r := g1
      have g2 : z3.led[z.led.length]? = some e := g2
      rw [n1] at g1
      rw [n2] at g2
      cases (Option.some.inj g1)
      cases (Option.some.inj g2)
      obtain ⟨P', r1, r2⟩ := g3
      have hg := hV4.g
      walk_at "go"
      refine e_ixL (v := .ref N) (SqL.of hg) (at_of (j := z.led.length) (by omega) (by rw [List.getElem?_map]; show Option.map _ (z3.rs[z.led.length]?) = _; rw [n1]; rfl)) ?_
      walk_at "go"
      refine e_setL r1 rfl ?_
      have hV5 := hV4.set F0 (v := 1) n1 n2 r1 r2
      refine k _ _ hV5 ?_ e1 (fun p => ?_) ?_
      · have := hI.sent hp (z.rs ++ [N])
        have el : z3.led.set z.led.length ((x, y), 1) = z.led ++ [((x, y), 1)] := by rw [hled]; simp
        show Iv w.n { kvs := z3.kvs, tt := _, Q := _, rs := z3.rs, led := z3.led.set z.led.length ((x, y), 1) }
        rw [el, e1, e2, e3, hrs]
        exact this
      · show (updQ z3.Q (x, y) (z3.Q (x, y) ++ [ltr z.led.length x]) p).length ≤ _
        rw [e3]
        unfold updQ
        split
        · rename_i e; rw [e, List.length_append, List.length_singleton]; exact Nat.le_refl _
        · exact Nat.le_succ _
      · show (z3.led.set _ _).length ≤ _
        rw [List.length_set, hled, List.length_append, List.length_singleton]; exact Nat.le_refl _
theorem ok_law_number (T : Txt K mg)   {f : Addr} {fd : FuncData} (F : FnP K "_law_number" s_law_number f fd) : FnOk P w K mg base CX0 1 f fd ["data", "source"] (sp_law_number K) := by
  refine F.ok sc_law_number (fun vs H Q E h => ?_) (fun cdv A outer s H vs Q E hr h => ?_)
  · obtain ⟨_, _, rfl, _⟩ := h
    rfl
  · have S := sc_law_number
    refine ⟨_, PSs.nox (pss_cons (ps_if (pw_or (pt_not (pt_val (pe_callB call_isi (by rfl) T.f_isinstance (by first | rfl | decide +kernel) (pa_cons (pv 0) (pa_cons (pe_bltn (v := .ty "list") (by rfl) T.f_list (by first | rfl | decide +kernel) rfl) pa_nil))))) (pw_or (pt_cmpR op_ne (pe_callB call_len_seq (by rfl) T.f_len (by first | rfl | decide +kernel) (pa_cons (pv 0) pa_nil)) pe_int (nomark _)) (pw_or1 (pt_cmpR op_ne (pe_ix ix_list (pv 0) pe_int (fun _ _ => rfl)) (pv 1) (nomark _))))).pt
    (pss_one (ps_ret (pe_un un_neg pe_int)))
    pss_nil)
    (pss_one (ps_ret (pe_op op_add (pe_op op_mul pe_int (pe_ix ix_list (pv 0) pe_int (fun _ _ => rfl))) (pe_ix ix_list (pv 0) pe_int (fun _ _ => rfl)))))), ?_⟩
    try dsimp only [cxOf, Cx.nox]
    obtain ⟨_, _, rfl, L, n, x, rfl, rfl, e, k⟩ := h
    walk_at "go"
    rw [List.length_map, show (ltr n x).length = 3 from rfl]
    refine i_neself ?_
    walk_at "go"
    refine e_ixL (v := .int x) (SqL.of e) rfl ?_
    walk_at "go"
    refine i_neself ?_
    walk_at "go"
    refine e_ixL (v := .int ((n : Int) / 7)) (SqL.of e) rfl ?_
    walk_at "go"
    refine e_ixL (v := .int ((n : Int) % 7)) (SqL.of e) rfl ?_
    walk_at "go"
    have : 7 * ((n : Int) / 7) + (n : Int) % 7 = (n : Int) := by omega
    rw [this]
    exact k
theorem ok_law_counted (T : Txt K mg)  (m_Lines_waiting : C8.Met P w K mg base 1 (He.ga K "Lines") "waiting" (sp_Lines_waiting K) []) (c_law_number : Cal P w K mg base 1 "_law_number" (sp_law_number K)) (m_Lines_swap : C8.Met P w K mg base 2 (He.ga K "Lines") "swap" (sp_Lines_swap K) []) (m_Lines_take : C8.Met P w K mg base 3 (He.ga K "Lines") "take" (sp_Lines_take K) []) (m_Lines_drop : C8.Met P w K mg base 2 (He.ga K "Lines") "drop" (sp_Lines_drop K) []) (m_Lines_double : C8.Met P w K mg base 2 (He.ga K "Lines") "double" (sp_Lines_double K) []) {f : Addr} {fd : FuncData} (F : FnP K "_law_counted" s_law_counted f fd) : FnOk P w K mg base CX0 4 f fd ["lines", "ledger", "source", "target", "at", "word"] (sp_law_counted K) := by
  refine F.ok sc_law_counted (fun vs H Q E h => ?_) (fun cdv A outer s H vs Q E hr h => ?_)
  · obtain ⟨_, _, _, _, _, _, rfl, _⟩ := h
    rfl
  · have S := sc_law_counted
    refine ⟨_, PSs.nox (pss_cons (ps_set (i := 6) S.nd rfl (by first | exact .inl rfl | exact .inr rfl) (C8.pe_mt m_Lines_waiting hr (by decide) (pv 0) (pa_cons (pv 2) (pa_cons (pv 3) pa_nil))))
    (pss_cons (ps_set (i := 7) S.nd rfl (by first | exact .inl rfl | exact .inr rfl) (pe_un un_neg pe_int))
    (C8.pss_cut (ps_if (pt_chain op_le op_lt pe_int (pv 4) (pe_callB call_len_seq (by rfl) T.f_len (by first | rfl | decide +kernel) (pa_cons (pv 6) pa_nil)))
    (pss_cons (ps_set (i := 7) S.nd rfl (by first | exact .inl rfl | exact .inr rfl) (pe_c c_law_number hr (by decide) (by rfl) (pa_cons (pe_ix ix_list (pv 6) (pv 4) (fun _ _ => rfl)) (pa_cons (pv 2) pa_nil))))
      (pss_one (ps_if (pw_or (pt_not (pt_chain op_le op_lt pe_int (pv 7) (pe_callB call_len_seq (by rfl) T.f_len (by first | rfl | decide +kernel) (pa_cons (pv 1) pa_nil)))) (pw_or1 (pt_cmpR (op_neD hr.units) (pe_ix ix_list (pe_ix ix_list (pv 1) (pv 7) (fun _ _ => rfl)) pe_int (fun _ _ => rfl)) (pe_tup (pa_cons (pv 2) (pa_cons (pv 3) pa_nil))) (nomark _)))).pt
      (pss_one (ps_ret pe_bl))
      pss_nil)))
    pss_nil)
    (pss_cons (ps_if (pt_cmpR op_eq (pv 5) pe_str (nomark _))
    (pss_cons (ps_expr (C8.pe_mt m_Lines_swap hr (by decide) (pv 0) (pa_cons (pv 2) (pa_cons (pv 3) (pa_cons (pv 4) pa_nil)))))
      (pss_one (ps_ret pe_bl)))
    pss_nil)
    (C8.pss_cut (ps_if (pt_cmpR op_eq (pv 5) pe_str (nomark _))
    (pss_cons (ps_set (i := 8) S.nd rfl (by first | exact .inl rfl | exact .inr rfl) (C8.pe_mt m_Lines_take hr (by decide) (pv 0) (pa_cons (pv 2) (pa_cons (pv 3) (pa_cons (pv 4) pa_nil)))))
      (pss_cons (ps_set (i := 9) S.nd rfl (by first | exact .inl rfl | exact .inr rfl) (pe_cmpR op_notN (pv 8) pe_non (nomark _)))
      (pss_one (ps_if (pw_and (pt_val (pv 9)) (pw_and1 (pw_or (pt_cmpR op_lt (pv 7) pe_int (nomark _)) (pw_or1 (pt_cmpR (op_neD hr.units) (pv 8) (pe_ix ix_list (pv 6) (pv 4) (fun _ _ => rfl)) (nomark _)))).pt)).pt
      (pss_one (ps_ret pe_bl))
      pss_nil))))
    (pss_one (ps_if (pt_cmpR op_eq (pv 5) pe_str (nomark _))
      (pss_one (ps_set (i := 9) S.nd rfl (by first | exact .inl rfl | exact .inr rfl) (C8.pe_mt m_Lines_drop hr (by decide) (pv 0) (pa_cons (pv 2) (pa_cons (pv 3) (pa_cons (pv 4) pa_nil))))))
      (pss_one (ps_set (i := 9) S.nd rfl (by first | exact .inl rfl | exact .inr rfl) (C8.pe_mt m_Lines_double hr (by decide) (pv 0) (pa_cons (pv 2) (pa_cons (pv 3) (pa_cons (pv 4) pa_nil)))))))))
    (C8.pss_cut (ps_if (pw_and (pt_cmpR op_ne (pv 9) (pe_cmpR op_ge (pv 7) pe_int (nomark _)) (nomark _)) (pw_and1 (pt_cmpR op_ne (pv 5) pe_str (nomark _)))).pt
    (pss_one (ps_ret pe_bl))
    pss_nil)
    (C8.pss_cut (ps_if (pt_val (pv 9))
    (pss_one (ps_asg (pe_op op_add (pe_ix ix_list (pe_ix ix_list (pv 1) (pv 7) (fun _ _ => rfl)) pe_int (fun _ _ => rfl)) (pe_ix ix_list (pe_lst (pa_cons pe_int (pa_cons (pe_un un_neg pe_int) pa_nil))) (pe_callTy call_int1 (by rfl) T.f_int (by first | rfl | decide +kernel) (pa_cons (pe_cmpR op_ne (pv 5) pe_str (nomark _)) pa_nil)) (fun _ _ => rfl))) (pg_sub (pe_ix ix_list (pv 1) (pv 7) (fun _ _ => rfl)) pe_int set_list)))
    pss_nil)
    (pss_one (ps_ret pe_bl))))))))), ?_⟩
    try dsimp only [cxOf, Cx.nox]
    obtain ⟨_, _, _, _, _, _, rfl, w, z, x, y, i, v, rfl, rfl, rfl, rfl, rfl, rfl, F0, hV, hI, hp, hz, hz2, i1, i2, hv, k⟩ := h
    have hM : ∀ p ∈ allP w.n, w.M z.rs (w.dq p) := fun p hp => .inl ⟨p, hp, rfl⟩
    walk_at "go"
    refine hV.l.me (by decide) ?_
    walk_at "go"
    refine ⟨_, _, _, rfl, w.a, w.c, w.t, w.q, w.n, z.kvs, z.tt, _, w.dq, x, y, w.M z.rs, z.Q (x, y), rfl, rfl, rfl, hV.l, hp, hV.qd _ hp, by omega, fun D qs H1 s1 hD eD pD => ?_⟩
    have hV1 := hV.same s1
    have lq := prd_len pD
    have nD : ¬ w.M z.rs D := fun m => hV.al D m hD
    have nq : ∀ q ∈ qs, ¬ w.M z.rs q := fun q hq => by
      obtain ⟨m, hm, e⟩ := List.mem_iff_getElem.mp hq
      obtain ⟨q2, c, h2, _, _, g2, _⟩ := prd_get pD m (by omega)
      have : q2 = q := by rw [List.getElem?_eq_getElem hm, e] at h2; exact (Option.some.inj h2).symm
      subst this
      exact fun m => hV.al _ m g2
    have pD1 : Paired (fun p (c : List Int) => H1 p = some (.lst (c.map V.int))) qs (z.Q (x, y)) := prd_imp (fun p c g => g.2.2) pD
    clear pD hD s1 hV
    walk_at "go"
    refine e_cut (Mid := fun σ' H' => ∃ num : Int, σ' = [some (.ref w.a), some (.ref w.G), some (.int x), some (.int y), some (.int i), some (.str v), some (.ref D), some (.int num), none, none] ∧ Same H1 H' ∧
      ((spot i (z.Q (x, y)).length = true ∧ ∃ (j : Nat) (e : Pq × Int), num = (j : Int) ∧ z.led[j]? = some e ∧ e.1 = (x, y) ∧ (z.Q (x, y))[i.toNat]? = some (ltr j x)) ∨ (spot i (z.Q (x, y)).length = false ∧ num = -1))) ?_ ?_
    · walk_at "go"
      refine i_d (fun h0 => ?_) (fun h0 => ?_)
      · walk_at "go"
        rw [List.length_map, lq]
        refine i_d (fun h1 => ?_) (fun h1 => ?_)
        · have hs : spot i (z.Q (x, y)).length = true := by
            unfold spot
            rw [decide_eq_true h0, decide_eq_true h1]; rfl
          obtain ⟨L, c, hL, hc, eL⟩ := prd_get pD1 i.toNat (by omega)
          obtain ⟨j, e, he, e1, ec⟩ := hI.own _ hp c (List.mem_of_getElem? hc)
          have ec : c = ltr j x := ec
          subst ec
          walk_at "go"
          refine e_ixL (v := .ref L) (SqL.of eD) (at_of (j := i.toNat) (by omega) (by rw [List.getElem?_map, hL]; rfl)) ?_
          walk_at "go"
          refine ⟨_, _, rfl, L, j, x, rfl, rfl, eL, ?_⟩
          have hj := (List.getElem?_eq_some_iff.mp he).1
          have hg := hV1.g
          have lr := prd_len hV1.pp
          walk_at "go"
          refine i_d (fun _ => ?_) (fun h => absurd (by omega) h)
          walk_at "go"
          rw [List.length_map, lr]
          rw [decide_eq_true (show ((j : Nat) : Int) < ((z.led.length : Nat) : Int) by omega)]
          walk_at "go"
          obtain ⟨r, e', hr, he', P, r1, r2⟩ := prd_get hV1.pp j (by omega)
          rw [he] at he'
          cases (Option.some.inj he')
          refine e_ixL (v := .ref r) (SqL.of hg) (at_of (j := j) rfl (by rw [List.getElem?_map, hr]; rfl)) ?_
          walk_at "go"
          refine e_ixL (v := .ref P) (SqL.of r1) rfl ?_
          walk_at "go"
          rename_i T1 hT1
          have s2 := same_new (o := .tup [.int x, .int y]) hT1
          refine e_neTT (xs := [e.1.1, e.1.2]) (ys := [x, y]) (SqT.of (s2 _ _ r2)) (SqT.of upd_same) ?_
          rw [pair_dec e.1 (x, y), decide_eq_true e1]
          walk_at "go"
          exact ⟨_, rfl, s2, .inl ⟨hs, j, e, rfl, he, e1, hc⟩⟩
        · have hs : spot i (z.Q (x, y)).length = false := by
            unfold spot
            rw [decide_eq_false h1, Bool.and_false]
          walk_at "go"
          exact ⟨_, rfl, Same.refl _, .inr ⟨hs, rfl⟩⟩
      · have hs : spot i (z.Q (x, y)).length = false := by
          unfold spot
          rw [decide_eq_false h0, Bool.false_and]
        walk_at "go"
        exact ⟨_, rfl, Same.refl _, .inr ⟨hs, rfl⟩⟩
    · rintro σ' H2 ⟨num, rfl, s2, hn⟩
      have hV2 := hV1.same s2
      have eD := s2 _ _ eD
      have pD2 := prd_imp (fun p (c : List Int) (g : H1 p = some (.lst (c.map V.int))) => (s2 _ _ g : H2 p = some (.lst (c.map V.int)))) pD1
      clear hV1 pD1 s2
      have hQ := hV2.qd _ hp
      walk_at "go"
      refine i_d (fun h1 => ?_) (fun h1 => ?_)
      · have h2 : v ≠ "take" := by rw [h1]; decide
        walk_at "go"
        refine hV2.l.me (by decide) ?_
        walk_at "go"
        refine ⟨_, _, _, _, rfl, w.a, w.c, w.t, w.q, w.n, z.kvs, z.tt, _, w.dq, x, y, i, w.M z.rs, z.Q (x, y), rfl, rfl, rfl, rfl, hV2.l, hp, hQ, by omega, hM _ hp, fun hs H3 s3 => ?_, fun hs H3 e f f3 hL3 he hf hQ3 => ?_⟩
        · walk_at "go"
          exact k H3 z (hV2.same s3) hI rfl (fun p => Nat.le_succ _) rfl (fun p _ => rfl) fun e => absurd e h2
        · walk_at "go"
          have hV3 := VL.call F0 hp hV2 (f3.mono (by simp)) hL3 hQ3
          refine k H3 _ hV3 (hI.ord hp (fun c => cnt_swap c _ _ e f he hf) (by rw [List.length_set, List.length_set])) rfl (fun p => ?_) rfl (fun p ne => updQ_ne ne) fun e => absurd e h2
          show (updQ z.Q (x, y) _ p).length ≤ _
          unfold updQ
          split
          · rename_i e; rw [e, List.length_set, List.length_set]; exact Nat.le_succ _
          · exact Nat.le_succ _
      · -- take, drop, double
        refine e_cut (Mid := fun σ' H' => ∃ (v8 : Option V) (dn : Bool) (tt' : Tot) (Q1 : Lts), σ' = [some (.ref w.a), some (.ref w.G), some (.int x), some (.int y), some (.int i), some (.str v), some (.ref D), some (.int num), v8, some (.bl dn)] ∧ VL K w { z with tt := tt', Q := updQ z.Q (x, y) Q1 } H' ∧
          ((dn = false ∧ tt' = z.tt ∧ Q1 = z.Q (x, y) ∧ (v ≠ "take" → spot i (z.Q (x, y)).length = false) ∧ (v = "take" → (cutB z.kvs x y || !spot i (z.Q (x, y)).length) = true)) ∨
           (dn = true ∧ spot i (z.Q (x, y)).length = true ∧ v ≠ "double" ∧ Q1 = (z.Q (x, y)).eraseIdx i.toNat ∧ tt'.1 = z.tt.1 ∧ tt'.2.2.1 = z.tt.2.2.1 ∧ tt'.2.1 + tt'.2.2.2 = z.tt.2.1 + z.tt.2.2.2 + 1) ∨
           (dn = true ∧ spot i (z.Q (x, y)).length = true ∧ v = "double" ∧ (∃ e, (z.Q (x, y))[i.toNat]? = some e ∧ Q1 = z.Q (x, y) ++ [e]) ∧ tt'.1 = z.tt.1 ∧ tt'.2.2.1 = z.tt.2.2.1 + 1 ∧ tt'.2.1 + tt'.2.2.2 = z.tt.2.1 + z.tt.2.2.2))) ?_ ?_
        · walk_at "go"
          refine i_d (fun h2 => ?_) (fun h2 => ?_)
          · walk_at "go"
            refine hV2.l.me (by decide) ?_
            walk_at "go"
            refine ⟨_, _, _, _, rfl, w.a, w.c, w.t, w.q, w.n, z.kvs, z.tt, _, w.dq, x, y, i, w.M z.rs, z.Q (x, y), rfl, rfl, rfl, rfl, hV2.l, hp, hQ, by omega, hM _ hp, fun hc H3 s3 => ?_, fun hc H3 L e f3 hL3 hQ3 he nL eL => ?_⟩
            · walk_at "go"
              refine ⟨rfl, ?_⟩
              rw [decide_eq_true (rfl : V.non = V.non)]
              walk_at "go"
              refine ⟨_, false, z.tt, z.Q (x, y), rfl, ?_, .inl ⟨rfl, rfl, rfl, fun n => absurd h2 n, fun _ => hc⟩⟩
              rw [updQ_self]
              exact hV2.same s3
            · walk_at "go"
              refine ⟨rfl, ?_⟩
              rw [decide_eq_false (show ¬ V.ref L = V.non from fun q => by cases q)]
              walk_at "go"
              have hs : spot i (z.Q (x, y)).length = true := by
                have := (Bool.or_eq_false_iff.mp hc).2
                simpa using this
              obtain ⟨j0, j1⟩ := spot_iff hs
              rcases hn with ⟨_, j, e2, rfl, he2, e21, hc2⟩ | ⟨hn, _⟩
              · refine i_d (fun q => by omega) (fun _ => ?_)
                walk_at "go"
                obtain ⟨L2, c2, hL2, hc3, eL2⟩ := prd_get pD2 i.toNat (by omega)
                have ec : c2 = e := Option.some.inj (hc3.symm.trans he)
                subst ec
                have ht := hV2.l.tot
                have eD3 := f3 _ _ (mem2 (hV2.l.nl eD).2.2.1 fun q => nD (by rw [q]; exact hM _ hp)) eD
                have eL3 := f3 _ _ (mem2 (hV2.l.nl eL2).2.2.1 fun q => nq L2 (List.mem_of_getElem? hL2) (by rw [q]; exact hM _ hp)) eL2
                refine e_ixL (v := .ref L2) (SqL.of eD3) (at_of (j := i.toNat) (by omega) (by rw [List.getElem?_map, hL2]; rfl)) ?_
                refine e_neLL (SqL.of eL) (SqL.of eL3) ?_
                walk_at "go"
                refine i_neself ?_
                walk_at "go"
                exact ⟨_, true, _, _, rfl, VL.call F0 hp hV2 f3 hL3 hQ3, .inr (.inl ⟨rfl, hs, by rw [h2]; decide, rfl, rfl, rfl, by show z.tt.2.1 + 1 + z.tt.2.2.2 = _; omega⟩)⟩
              · rw [hs] at hn; cases hn
          · walk_at "go"
            refine i_d (fun h3 => ?_) (fun h3 => ?_)
            · walk_at "go"
              refine hV2.l.me (by decide) ?_
              walk_at "go"
              refine ⟨_, _, _, _, rfl, w.a, w.c, w.t, w.q, w.n, z.kvs, z.tt, _, w.dq, x, y, i, w.M z.rs, z.Q (x, y), rfl, rfl, rfl, rfl, hV2.l, hp, hQ, by omega, hM _ hp, fun hs H3 s3 => ?_, fun hs H3 f3 hL3 hQ3 => ?_⟩
              · walk_at "go"
                refine ⟨_, false, z.tt, z.Q (x, y), rfl, ?_, .inl ⟨rfl, rfl, rfl, fun _ => hs, fun q => absurd q h2⟩⟩
                rw [updQ_self]
                exact hV2.same s3
              · walk_at "go"
                exact ⟨_, true, _, _, rfl, VL.call F0 hp hV2 f3 hL3 hQ3, .inr (.inl ⟨rfl, hs, by rw [h3]; decide, rfl, rfl, rfl, by show z.tt.2.1 + (z.tt.2.2.2 + 1) = _; omega⟩)⟩
            · have h4 : v = "double" := by
                rcases hv with h | h | h | h
                · exact absurd h h2
                · exact absurd h h3
                · exact h
                · exact absurd h h1
              walk_at "go"
              refine hV2.l.me (by decide) ?_
              walk_at "go"
              refine ⟨_, _, _, _, rfl, w.a, w.c, w.t, w.q, w.n, z.kvs, z.tt, _, w.dq, x, y, i, w.M z.rs, z.Q (x, y), rfl, rfl, rfl, rfl, hV2.l, hp, hQ, by omega, hM _ hp, hV2.al, fun hs H3 s3 => ?_, fun hs H3 e f3 hL3 he hQ3 => ?_⟩
              · walk_at "go"
                refine ⟨_, false, z.tt, z.Q (x, y), rfl, ?_, .inl ⟨rfl, rfl, rfl, fun _ => hs, fun q => absurd q h2⟩⟩
                rw [updQ_self]
                exact hV2.same s3
              · walk_at "go"
                exact ⟨_, true, _, _, rfl, VL.call F0 hp hV2 f3 hL3 hQ3, .inr (.inr ⟨rfl, hs, h4, ⟨e, he, rfl⟩, rfl, rfl, rfl⟩)⟩
        · rintro σ' H3 ⟨v8, dn, tt', Q1, rfl, hV3, hd⟩
          -- the second test
          have t2 : ((dn != decide (num ≥ 0)) && !decide (v = "take")) = false := by
            rcases hn with ⟨hs, j, e, rfl, _⟩ | ⟨hs, rfl⟩
            · rcases hd with ⟨rfl, _, _, g, _⟩ | ⟨rfl, _⟩ | ⟨rfl, _⟩
              · by_cases q : v = "take"
                · rw [decide_eq_true q]; simp
                · rw [g q] at hs; cases hs
              · rw [decide_eq_true (by omega)]; rfl
              · rw [decide_eq_true (by omega)]; rfl
            · rcases hd with ⟨rfl, _, _, g, _⟩ | ⟨rfl, g, _⟩ | ⟨rfl, g, _⟩
              · rfl
              · rw [g] at hs; cases hs
              · rw [g] at hs; cases hs
          refine e_cut (Mid := fun σ' H' => σ' = [some (.ref w.a), some (.ref w.G), some (.int x), some (.int y), some (.int i), some (.str v), some (.ref D), some (.int num), v8, some (.bl dn)] ∧ H' = H3) ?_ ?_
          · walk_at "go"
            refine i_b (fun q => ?_) (fun q => ?_)
            · have hv : v = "take" := by
                rw [show (dn != decide (num ≥ 0)) = true from q, Bool.true_and, Bool.not_eq_false'] at t2
                exact of_decide_eq_true t2
              walk_at "go"
              refine i_nd (fun n => absurd hv n) (fun _ => ?_)
              walk_at "go"
              exact ⟨rfl, rfl⟩
            · walk_at "go"
              exact ⟨rfl, rfl⟩
          · rintro σ' H4 ⟨rfl, rfl⟩
            refine e_cut (Mid := fun σ' H' => Q (.bl true) H') ?_ ?_
            · -- the row is changed by dl
              have upd1 : ∀ (j : Nat) (e : Pq × Int) (dl : Int), num = (j : Int) → z.led[j]? = some e → e.1 = (x, y) → dn = true → (∀ H', VL K w { z with tt := tt', Q := updQ z.Q (x, y) Q1, led := z.led.set j (e.1, e.2 + dl) } H' → Q (.bl true) H') → (v ≠ "double" ∧ dl = -1 ∨ v = "double" ∧ dl = 1) →
                  tIfS (tB (tVar 9)) (tAsg (tOp (rI0 fun i j => V.int (i + j)) (tOp (rIxL K) (tOp (rIxL K) (tVar 1) (tVar 7)) (tC (V.int 1))) (tOp (rIxL K) (tLst (tCons (tC (V.int 1)) (tCons (tUn (rU fun i => V.int (-i)) (tC (V.int 1))) tNil))) (tCB (fun xs H Q => (∃ i, xs = [V.int i] ∧ Q (V.int i) H) ∨ ∃ k, xs = [V.bl k] ∧ Q (V.int (if k = true then 1 else 0)) H) (tCons (tOp rNe (tVar 5) (tC (V.str (Str.ofString "double")))) tNil)))) (gSub (tOp (rIxL K) (tVar 1) (tVar 7)) (tC (V.int 1)) rSetL)) tNext
                    { nx := fun _ H' => Q (.bl true) H', rt := Q } [some (.ref w.a), some (.ref w.G), some (.int x), some (.int y), some (.int i), some (.str v), some (.ref D), some (.int num), v8, some (.bl dn)] H4 := by
                intro j e dl en he e1 hdn fin hdl
                subst en hdn
                have hj := (List.getElem?_eq_some_iff.mp he).1
                have lr := prd_len hV3.pp
                have lr : z.rs.length = z.led.length := lr
                obtain ⟨r, e', hr, he', P, r1, r2⟩ := prd_get hV3.pp j hj
                have hr : z.rs[j]? = some r := hr
                have he' : z.led[j]? = some e' := he'
                rw [he] at he'
                cases (Option.some.inj he')
                have hg : H4 w.G = some (.lst (z.rs.map V.ref)) := hV3.g
                walk_at "go"
                refine e_ixL (v := .ref r) (SqL.of hg) (at_of (j := j) rfl (by rw [List.getElem?_map, hr]; rfl)) ?_
                walk_at "go"
                refine e_ixL (v := .int e.2) (SqL.of r1) rfl ?_
                walk_at "go"
                rename_i B hB
                have s5 := same_new (o := .lst [.int 1, .int (-1)]) hB
                have hV5 := hV3.same s5
                have r1 := s5 _ _ r1
                have r2 := s5 _ _ r2
                have eB : upd H4 B (.lst [.int 1, .int (-1)]) B = some (.lst [.int 1, .int (-1)]) := upd_same
                show (_ ∨ ∃ k, _)
                refine .inr ⟨_, rfl, ?_⟩
                have ei : atI [V.int 1, V.int (-1)] (if (!decide (v = "double")) = true then 1 else 0) = some (.int dl) := by
                  rcases hdl with ⟨h, rfl⟩ | ⟨h, rfl⟩
                  · rw [decide_eq_false h]; rfl
                  · rw [decide_eq_true h]; rfl
                refine e_ixL (v := .int dl) (SqL.of eB) ei ?_
                have hg5 : upd H4 B (.lst [.int 1, .int (-1)]) w.G = some (.lst (z.rs.map V.ref)) := hV5.g
                walk_at "go"
                refine e_ixL (v := .ref r) (SqL.of hg5) (at_of (j := j) rfl (by rw [List.getElem?_map, hr]; rfl)) ?_
                walk_at "go"
                refine e_setL r1 rfl ?_
                exact fin _ (hV5.set F0 (v := e.2 + dl) hr he r1 r2)
              rcases hd with ⟨hdn, ht, hq, g1, g2⟩ | ⟨hdn, hs, hv2, hq, t1, t3, t4⟩ | ⟨hdn, hs, hv2, ⟨e0, he0, hq⟩, t1, t3, t4⟩
              · subst hdn ht hq
                rw [updQ_self] at hV3
                walk_at "go"
                refine k H4 z hV3 hI rfl (fun p => Nat.le_succ _) rfl (fun p _ => rfl) fun hv hc hs => ?_
                rw [hc, hs] at g2
                exact absurd (g2 hv) (by decide)
              · rcases hn with ⟨_, j, e, en, he, e1, hc⟩ | ⟨hn, _⟩
                · obtain ⟨j0, j1⟩ := spot_iff hs
                  refine upd1 j e (-1) en he e1 hdn (fun H' hV' => ?_) (.inl ⟨hv2, rfl⟩)
                  have lQ : Q1.length + 1 = (z.Q (x, y)).length := by
                    rw [hq, List.length_eraseIdx, if_pos (by omega)]
                    omega
                  refine k H' _ hV' (hI.chg hp he e1 (fun c m => by rw [hq] at m; exact List.mem_of_mem_eraseIdx m) (fun c => ?_) ?_ t1) rfl (fun p => ?_) (List.length_set ..) (fun p ne => updQ_ne ne) fun _ _ _ => ?_
                  · rw [hq, cnt_erase c _ _ _ hc]
                    show _ = _ + if ltr j x = c then _ else _
                    split <;> omega
                  · have := hI.bal
                    omega
                  · show (updQ z.Q (x, y) Q1 p).length ≤ _
                    unfold updQ
                    split
                    · rename_i e; rw [e]; omega
                    · exact Nat.le_succ _
                  · show (updQ z.Q (x, y) Q1 (x, y)).length + 1 = _
                    rw [updQ_at]; exact lQ
                · rw [hs] at hn; cases hn
              · rcases hn with ⟨_, j, e, en, he, e1, hc⟩ | ⟨hn, _⟩
                · refine upd1 j e 1 en he e1 hdn (fun H' hV' => ?_) (.inr ⟨hv2, rfl⟩)
                  rw [hc] at he0
                  cases (Option.some.inj he0)
                  have lQ : Q1.length = (z.Q (x, y)).length + 1 := by rw [hq, List.length_append, List.length_singleton]
                  refine k H' _ hV' (hI.chg hp he e1 (fun c m => ?_) (fun c => ?_) ?_ t1) rfl (fun p => ?_) (List.length_set ..) (fun p ne => updQ_ne ne) fun h => absurd h (by rw [hv2]; decide)
                  · rw [hq] at m
                    rcases List.mem_append.mp m with m | m
                    · exact m
                    · rw [List.mem_singleton.mp m]; exact List.mem_of_getElem? hc
                  · rw [hq, List.count_append, List.count_singleton]
                    show _ = _ + if ltr j x = c then _ else _
                    by_cases q : ltr j x = c
                    · rw [if_pos q, if_pos (by simpa using q)]; omega
                    · rw [if_neg q, if_neg (by simpa using q)]; omega
                  · have := hI.bal
                    omega
                  · show (updQ z.Q (x, y) Q1 p).length ≤ _
                    unfold updQ
                    split
                    · rename_i e; rw [e]; omega
                    · exact Nat.le_succ _
                · rw [hs] at hn; cases hn
            · intro σ' H' fin
              walk_at "go"
              exact fin
theorem ok_law_emptied (T : Txt K mg)  (m_Lines_join : C8.Met P w K mg base 3 (He.ga K "Lines") "join" (sp_Lines_join K) []) (m_Lines_waiting : C8.Met P w K mg base 1 (He.ga K "Lines") "waiting" (sp_Lines_waiting K) []) (c_law_draw : Cal P w K mg base 1 "_law_draw" (spDraw K)) (c_law_balanced : Cal P w K mg base 2 "_law_balanced" (sp_law_balanced K)) (c_law_counted : Cal P w K mg base 4 "_law_counted" (sp_law_counted K)) (m_Lines_total : C8.Met P w K mg base 1 (He.ga K "Lines") "total" (sp_Lines_total K) []) {f : Addr} {fd : FuncData} (F : FnP K "_law_emptied" s_law_emptied f fd) : FnOk P w K mg base CX0 5 f fd ["lines", "ledger", "state", "script", "count"] (sp_law_emptied K) := by
  refine F.ok sc_law_emptied (fun vs H Q E h => ?_) (fun cdv A outer s H vs Q E hr h => ?_)
  · obtain ⟨_, _, _, _, _, rfl, _⟩ := h
    rfl
  · have S := sc_law_emptied
    refine ⟨_, PSs.nox (pss_cons (ps_for PassesOwn.never rfl (pi_range2 (by rfl) T.f_range (pa_cons pe_int (pa_cons (pe_op op_add (pv 4) pe_int) pa_nil))) (pg_name (i := 5) S.nd rfl (by first | exact .inl rfl | exact .inr rfl))
    (pss_one (ps_for PassesOwn.never rfl (pi_range2 (by rfl) T.f_range (pa_cons pe_int (pa_cons (pe_op op_add (pv 4) pe_int) pa_nil))) (pg_name (i := 6) S.nd rfl (by first | exact .inl rfl | exact .inr rfl))
      (pss_one (ps_if (pt_cmpR op_ne (pv 5) (pv 6) (nomark _))
        (pss_cons (ps_expr (C8.pe_mt m_Lines_join hr (by decide) (pv 0) (pa_cons (pv 5) (pa_cons (pv 6) pa_nil))))
          (pss_cons (ps_for PassesOwn.never rfl (pi_range1 (by rfl) T.f_range (pa_cons (pe_callB call_len_seq (by rfl) T.f_len (by first | rfl | decide +kernel) (pa_cons (C8.pe_mt m_Lines_waiting hr (by decide) (pv 0) (pa_cons (pv 5) (pa_cons (pv 6) pa_nil))) pa_nil)) pa_nil)) (pg_name (i := 7) S.nd rfl (by first | exact .inl rfl | exact .inr rfl))
          (pss_cons (ps_set (i := 8) S.nd rfl (by first | exact .inl rfl | exact .inr rfl) (pe_c c_law_draw hr (by decide) (by rfl) (pa_cons (pv 2) (pa_cons (pv 3) (pa_cons (pe_callB call_len_seq (by rfl) T.f_len (by first | rfl | decide +kernel) (pa_cons (C8.pe_mt m_Lines_waiting hr (by decide) (pv 0) (pa_cons (pv 5) (pa_cons (pv 6) pa_nil))) pa_nil)) pa_nil)))))
            (pss_one (ps_if (pw_or (pt_not (pt_val (pe_c c_law_counted hr (by decide) (by rfl) (pa_cons (pv 0) (pa_cons (pv 1) (pa_cons (pv 5) (pa_cons (pv 6) (pa_cons (pv 8) (pa_cons pe_str pa_nil))))))))) (pw_or1 (pt_not (pt_val (pe_c c_law_balanced hr (by decide) (by rfl) (pa_cons (pv 0) pa_nil)))))).pt
            (pss_one (ps_ret pe_bl))
            pss_nil))))
          (pss_one (ps_if (pt_cmpR (op_neD hr.units) (C8.pe_mt m_Lines_waiting hr (by decide) (pv 0) (pa_cons (pv 5) (pa_cons (pv 6) pa_nil))) (pe_lst pa_nil) (nomark _))
          (pss_one (ps_ret pe_bl))
          pss_nil))))
        pss_nil)))))
    (pss_one (ps_ret (pe_cmpR op_eq (C8.pe_mt m_Lines_total hr (by decide) (pv 0) (pa_cons pe_str pa_nil)) pe_int (nomark _))))), ?_⟩
    try dsimp only [cxOf, Cx.nox]
    obtain ⟨_, _, _, _, _, rfl, w, z0, rfl, rfl, rfl, rfl, rfl, F0, hV, hI, hz, hz2, k⟩ := h
    have n1 := F0.n1
    have n9 := F0.n9
    have tn : (w.n + 1 - 1).toNat = w.n.toNat := by congr 1; omega
    walk_at "go"
    rw [tn]
    refine for_rng (fun i σ H4 => ∃ (z : Vs) (v5 v6 v7 v8 : Option V), σ = [some (.ref w.a), some (.ref w.G), some (.ref w.st), some (.ref w.sc), some (.int w.n), v5, v6, v7, v8] ∧ VL K w z H4 ∧ Iv w.n z ∧ (∀ p, (z.Q p).length ≤ 100) ∧ z.led.length = z0.led.length ∧ ∀ p ∈ preP w.n.toNat i, z.Q p = []) ⟨z0, _, _, _, _, rfl, hV, hI, hz, rfl, fun p hp => (by cases hp)⟩ (fun i σ H4 hi q => ?_) (fun σ H4 q => ?_)
    · obtain ⟨z, v5, v6, v7, v8, rfl, hV, hI, hz, hl, he⟩ := q
      walk_at "go"
      rw [tn]
      refine for_rng (fun j σ H4 => ∃ (z : Vs) (v6 v7 v8 : Option V), σ = [some (.ref w.a), some (.ref w.G), some (.ref w.st), some (.ref w.sc), some (.int w.n), some (.int (1 + (i : Nat))), v6, v7, v8] ∧ VL K w z H4 ∧ Iv w.n z ∧ (∀ p, (z.Q p).length ≤ 100) ∧ z.led.length = z0.led.length ∧ ∀ p ∈ preP w.n.toNat i ++ rowP w.n.toNat i j, z.Q p = []) ⟨z, v6, v7, v8, rfl, hV, hI, hz, hl, fun p hp => he p (by simpa [rowP] using hp)⟩ (fun j σ H4 hj q => ?_) (fun σ H4 q => ?_)
      · obtain ⟨z, v6, v7, v8, rfl, hV, hI, hz, hl, he⟩ := q
        walk_at "go"
        refine i_nd (fun h1 => ?_) (fun h1 => ?_)
        · have h1 : ¬ j = i := by omega
          have hp : (1 + (i : Int), 1 + (j : Int)) ∈ allP w.n := (mem_allP (by omega)).mpr ⟨by show (1 : Int) ≤ 1 + i; omega, by show 1 + (i : Int) ≤ w.n; omega, by show (1 : Int) ≤ 1 + j; omega, by show 1 + (j : Int) ≤ w.n; omega, by show 1 + (i : Int) ≠ 1 + j; omega⟩
          walk_at "go"
          refine hV.l.me (by decide) ?_
          walk_at "go"
          refine ⟨_, _, _, rfl, w.a, w.c, w.n, z.kvs, _, _, rfl, rfl, rfl, hV.l.ln, fun H5 kvs' s5 lk2 hg => ?_⟩
          have hV := (hV.same s5).putC F0 kvs'
          have hcut : cutB kvs' (1 + (i : Int)) (1 + (j : Int)) = false := by
            unfold cutB
            rw [hg, if_pos rfl]
          obtain ⟨z1, ez1⟩ : ∃ z1 : Vs, z1 = { z with kvs := kvs' } := ⟨_, rfl⟩
          rw [← ez1] at hV
          have hI : Iv w.n z1 := by rw [ez1]; exact ⟨hI.own, hI.cnt, hI.bal, hI.snt⟩
          have hz : ∀ p, (z1.Q p).length ≤ 100 := by rw [ez1]; exact hz
          have hl : z1.led.length = z0.led.length := by rw [ez1]; exact hl
          have he : ∀ p ∈ preP w.n.toNat i ++ rowP w.n.toNat i j, z1.Q p = [] := by rw [ez1]; exact he
          have hcut : cutB z1.kvs (1 + (i : Int)) (1 + (j : Int)) = false := by rw [ez1]; exact hcut
          have hni : (1 + (i : Int), 1 + (j : Int)) ∉ preP w.n.toNat i ++ rowP w.n.toNat i j := fun m => by
            rcases List.mem_append.mp m with m | m
            · have := (mem_preP.mp m).2.1; simp only at this; omega
            · have := (mem_rowP.mp m).2.2.1; simp only at this; omega
          clear hg lk2 s5 ez1
          generalize upd H5 w.c (.dT kvs') = H6 at hV ⊢
          walk_at "go"
          refine hV.l.me (by decide) ?_
          walk_at "go"
          have hz1 := hz (1 + (i : Int), 1 + (j : Int))
          refine ⟨_, _, _, rfl, w.a, w.c, w.t, w.q, w.n, z1.kvs, z1.tt, _, w.dq, _, _, w.M z1.rs, z1.Q (1 + (i : Int), 1 + (j : Int)), rfl, rfl, rfl, hV.l, hp, hV.qd _ hp, by omega, fun D qs H7 s7 hD eD pD => ?_⟩
          have hV := hV.same s7
          have lq := prd_len pD
          walk_at "go"
          rw [List.length_map, lq]
          walk_at "go"
          refine ⟨by omega, by omega, ?_⟩
          refine for_rng (fun m σ H8 => ∃ (z : Vs) (v7 v8 : Option V), σ = [some (.ref w.a), some (.ref w.G), some (.ref w.st), some (.ref w.sc), some (.int w.n), some (.int (1 + (i : Nat))), some (.int (1 + (j : Nat))), v7, v8] ∧ VL K w z H8 ∧ Iv w.n z ∧ (∀ p, (z.Q p).length ≤ 100) ∧ z.led.length = z0.led.length ∧ (∀ p ∈ preP w.n.toNat i ++ rowP w.n.toNat i j, z.Q p = []) ∧ z.kvs = z1.kvs ∧ (z.Q (1 + (i : Int), 1 + (j : Int))).length + m = (z1.Q (1 + (i : Int), 1 + (j : Int))).length) ⟨z1, _, _, rfl, hV, hI, hz, hl, he, rfl, rfl⟩ (fun m σ H8 hm q => ?_) (fun σ H8 q => ?_)
          · obtain ⟨z, v7, v8, rfl, hV, hI, hz, hl, he, hk, hlen⟩ := q
            walk_at "go"
            refine hV.l.me (by decide) ?_
            walk_at "go"
            refine ⟨_, _, _, rfl, w.a, w.c, w.t, w.q, w.n, z.kvs, z.tt, _, w.dq, _, _, w.M z.rs, z.Q (1 + (i : Int), 1 + (j : Int)), rfl, rfl, rfl, hV.l, hp, hV.qd _ hp, by omega, fun D qs H9 s9 hD eD pD => ?_⟩
            have hV := hV.same s9
            have lq := prd_len pD
            have d := hV.d
            walk_at "go"
            rw [List.length_map, lq]
            walk_at "go"
            intro b H10 b0 b1 k10 d10
            have hV := hV.kp k10 d10
            clear d
            walk_at "go"
            refine ⟨_, _, _, _, _, _, rfl, w, z, _, _, b, "take", rfl, rfl, rfl, rfl, rfl, rfl, F0, hV, hI, hp, by omega, by omega, by omega, by omega, .inl rfl, fun H11 z2 hV2 hI2 hk2 hz2 hl2 ho2 ht2 => ?_⟩
            have hs : spot b (z.Q (1 + (i : Int), 1 + (j : Int))).length = true := by
              unfold spot
              rw [decide_eq_true b0, decide_eq_true b1]; rfl
            have ht2 := ht2 rfl (by rw [hk]; exact hcut) hs
            walk_at "go"
            refine ⟨_, rfl, w, z2, rfl, F0, hV2, hI2, fun H12 s12 => ?_⟩
            walk_at "go"
            refine ⟨z2, _, _, rfl, hV2.same s12, hI2, fun p => ?_, hl2.trans hl, fun p hp => ?_, hk2.trans hk, by omega⟩
            · by_cases e : p = (1 + (i : Int), 1 + (j : Int))
              · rw [e]; omega
              · rw [ho2 p e]; exact hz p
            · rw [ho2 p fun e => hni (by rw [← e]; exact hp)]
              exact he p hp
          · obtain ⟨z, v7, v8, rfl, hV, hI, hz, hl, he, hk, hlen⟩ := q
            have hnil : z.Q (1 + (i : Int), 1 + (j : Int)) = [] := List.length_eq_zero_iff.mp (by omega)
            walk_at "go"
            refine hV.l.me (by decide) ?_
            walk_at "go"
            refine ⟨_, _, _, rfl, w.a, w.c, w.t, w.q, w.n, z.kvs, z.tt, _, w.dq, _, _, w.M z.rs, z.Q (1 + (i : Int), 1 + (j : Int)), rfl, rfl, rfl, hV.l, hp, hV.qd _ hp, by omega, fun D qs H9 s9 hD eD pD => ?_⟩
            have hV := hV.same s9
            rw [hnil] at pD
            walk_at "go"
            rename_i N hN
            have s10 := same_new (o := .lst []) hN
            refine e_neLol (v := []) (w := []) (s10 _ _ eD) (prd_imp (fun p c g => s10 _ _ g.2.2) pD) (ps := qs) (qs := []) upd_same .nil ?_
            walk_at "go"
            refine i_neself ?_
            walk_at "go"
            refine ⟨z, _, _, _, rfl, hV.same s10, hI, hz, hl, fun p hp => ?_⟩
            rw [rowP_succ, if_neg h1, ← List.append_assoc] at hp
            rcases List.mem_append.mp hp with hp | hp
            · exact he p hp
            · rw [List.mem_singleton.mp hp, Int.add_comm (i : Int), Int.add_comm (j : Int)]; exact hnil
        · walk_at "go"
          rw [rowP_succ, if_pos (by omega)]
          exact ⟨z, _, _, _, rfl, hV, hI, hz, hl, he⟩
      · obtain ⟨z, v6, v7, v8, rfl, hV, hI, hz, hl, he⟩ := q
        rw [preP_succ]
        exact ⟨z, _, _, _, _, rfl, hV, hI, hz, hl, he⟩
    · obtain ⟨z, v5, v6, v7, v8, rfl, hV, hI, hz, hl, he⟩ := q
      have lz := allP_le F0.n9
      walk_at "go"
      refine hV.l.me (by decide) ?_
      walk_at "go"
      refine ⟨_, _, rfl, w.a, w.c, w.t, w.q, w.n, z.kvs, z.tt, _, w.dq, "waiting", rfl, rfl, hV.l, lz, .inl ⟨rfl, w.M z.rs, z.Q, hV.qd, fun H5 s5 => ?_⟩⟩
      walk_at "go"
      have s0 : sumL (allP w.n) z.Q = 0 := by
        have key : ∀ ps : List Pq, (∀ p ∈ ps, z.Q p = []) → sumL ps z.Q = 0 := by
          intro ps
          induction ps with
          | nil => intro _; rfl
          | cons x r ih =>
            intro h
            show sumL ([x] ++ r) _ = 0
            rw [sumL_app, sumL_one, ih fun p hp => h p (List.mem_cons_of_mem _ hp), h x (by simp)]
            rfl
        exact key _ he
      rw [decide_eq_true s0]
      exact k H5 z (hV.same s5) hI he hl
theorem ok_law (T : Txt K mg) (c_Lines : C8.Mak P w K mg base 1 "Lines" (He.ga K "Lines") (sp_Lines___init__ K) [])  (c_law_draw : Cal P w K mg base 1 "_law_draw" (spDraw K)) (c_law_sent : Cal P w K mg base 4 "_law_sent" (sp_law_sent K)) (m_Lines_cut : C8.Met P w K mg base 2 (He.ga K "Lines") "cut" (sp_Lines_cut K) []) (m_Lines_join : C8.Met P w K mg base 3 (He.ga K "Lines") "join" (sp_Lines_join K) []) (m_Lines_waiting : C8.Met P w K mg base 1 (He.ga K "Lines") "waiting" (sp_Lines_waiting K) []) (c_law_counted : Cal P w K mg base 4 "_law_counted" (sp_law_counted K)) (c_law_balanced : Cal P w K mg base 2 "_law_balanced" (sp_law_balanced K)) (c_law_emptied : Cal P w K mg base 5 "_law_emptied" (sp_law_emptied K)) (m_Lines_total : C8.Met P w K mg base 1 (He.ga K "Lines") "total" (sp_Lines_total K) []) {f : Addr} {fd : FuncData} (F : FnP K "law" s_law f fd) : FnOk P w K mg base CX0 6 f fd ["script"] (sp_law K) := by
  refine F.ok sc_law (fun vs H Q E h => ?_) (fun cdv A outer s H vs Q E hr h => ?_)
  · obtain ⟨_, rfl, _⟩ := h
    rfl
  · have S := sc_law
    refine ⟨_, PSs.nox (pss_cons (ps_set (i := 1) S.nd rfl (by first | exact .inl rfl | exact .inr rfl) (pe_lst (pa_cons pe_int (pa_cons pe_int pa_nil))))
    (pss_cons (ps_set (i := 2) S.nd rfl (by first | exact .inl rfl | exact .inr rfl) (pe_op op_add pe_int (pe_c c_law_draw hr (by decide) (by rfl) (pa_cons (pv 1) (pa_cons (pv 0) (pa_cons pe_int pa_nil))))))
    (pss_cons (ps_set (i := 3) S.nd rfl (by first | exact .inl rfl | exact .inr rfl) (C8.pe_mk c_Lines hr (by decide) (by rfl) (pa_cons (pv 2) pa_nil)))
    (pss_cons (ps_set (i := 4) S.nd rfl (by first | exact .inl rfl | exact .inr rfl) (pe_lst pa_nil))
    (pss_cons (ps_for PassesOwn.never rfl (pi_range1 (by rfl) T.f_range (pa_cons (pe_c c_law_draw hr (by decide) (by rfl) (pa_cons (pv 1) (pa_cons (pv 0) (pa_cons pe_int pa_nil)))) pa_nil)) (pg_name (i := 5) S.nd rfl (by first | exact .inl rfl | exact .inr rfl))
    (pss_cons (ps_set (i := 6) S.nd rfl (by first | exact .inl rfl | exact .inr rfl) (pe_op op_add pe_int (pe_c c_law_draw hr (by decide) (by rfl) (pa_cons (pv 1) (pa_cons (pv 0) (pa_cons (pv 2) pa_nil))))))
      (pss_cons (ps_set (i := 7) S.nd rfl (by first | exact .inl rfl | exact .inr rfl) (pe_op op_add pe_int (pe_op op_mod (pe_callTy call_int1 (by rfl) T.f_int (by first | rfl | decide +kernel) (pa_cons (pe_op op_add (pv 6) (pe_c c_law_draw hr (by decide) (by rfl) (pa_cons (pv 1) (pa_cons (pv 0) (pa_cons (pe_op op_sub (pv 2) pe_int) pa_nil))))) pa_nil)) (pv 2))))
      (pss_cons (ps_set (i := 8) S.nd rfl (by first | exact .inl rfl | exact .inr rfl) (pe_c c_law_draw hr (by decide) (by rfl) (pa_cons (pv 1) (pa_cons (pv 0) (pa_cons pe_int pa_nil)))))
      (C8.pss_cut (ps_if (pt_cmpR op_lt (pv 8) pe_int (nomark _))
      (pss_one (ps_expr (pe_c c_law_sent hr (by decide) (by rfl) (pa_cons (pv 3) (pa_cons (pv 4) (pa_cons (pv 6) (pa_cons (pv 7) pa_nil)))))))
      (pss_one (ps_if (pt_cmpR op_eq (pv 8) pe_int (nomark _))
        (pss_one (ps_expr (C8.pe_mt m_Lines_cut hr (by decide) (pv 3) (pa_cons (pv 6) (pa_cons (pv 7) pa_nil)))))
        (pss_one (ps_if (pt_cmpR op_eq (pv 8) pe_int (nomark _))
          (pss_one (ps_expr (C8.pe_mt m_Lines_join hr (by decide) (pv 3) (pa_cons (pv 6) (pa_cons (pv 7) pa_nil)))))
          (pss_cons (ps_set (i := 9) S.nd rfl (by first | exact .inl rfl | exact .inr rfl) (pe_op op_sub (pe_c c_law_draw hr (by decide) (by rfl) (pa_cons (pv 1) (pa_cons (pv 0) (pa_cons (pe_op op_add (pe_callB call_len_seq (by rfl) T.f_len (by first | rfl | decide +kernel) (pa_cons (C8.pe_mt m_Lines_waiting hr (by decide) (pv 3) (pa_cons (pv 6) (pa_cons (pv 7) pa_nil))) pa_nil)) pe_int) pa_nil)))) pe_int))
            (pss_one (ps_if (pt_not (pt_val (pe_c c_law_counted hr (by decide) (by rfl) (pa_cons (pv 3) (pa_cons (pv 4) (pa_cons (pv 6) (pa_cons (pv 7) (pa_cons (pv 9) (pa_cons (pe_ix ix_list (pe_lst (pa_cons pe_str (pa_cons pe_str (pa_cons pe_str (pa_cons pe_str (pa_cons pe_str pa_nil)))))) (pe_op op_sub (pv 8) pe_int) (fun _ _ => rfl)) pa_nil)))))))))
            (pss_one (ps_ret pe_bl))
            pss_nil))))))))
      (pss_one (ps_if (pt_not (pt_val (pe_c c_law_balanced hr (by decide) (by rfl) (pa_cons (pv 3) pa_nil))))
      (pss_one (ps_ret pe_bl))
      pss_nil)))))))
    (pss_cons (ps_if (pt_not (pt_val (pe_c c_law_emptied hr (by decide) (by rfl) (pa_cons (pv 3) (pa_cons (pv 4) (pa_cons (pv 1) (pa_cons (pv 0) (pa_cons (pv 2) pa_nil))))))))
    (pss_one (ps_ret pe_bl))
    pss_nil)
    (pss_one (ps_ret (pe_and (pe_cmpR op_eq (pe_callB call_len_seq (by rfl) T.f_len (by first | rfl | decide +kernel) (pa_cons (pe_lc (own := [("row", 10)]) (g := gName 10) rfl S.nd (pi_list (pv 4)) (blkOk_by (N := N_law) (sc := defScope s_law) (by decide +kernel)) (fun _ _ _ _ _ => (pg_name (i := 10) S.nd rfl (by first | exact .inl rfl | exact .inr rfl))) (fun _ _ _ _ _ => (pts_one (pt_cmpR op_ne (pe_ix (ixL K) (pv 10) pe_int (fun _ _ => rfl)) pe_int (nomark _)))) (fun _ _ _ _ _ => (pv 10))) pa_nil)) pe_int (nomark _)) (pe_one (pe_cmpR op_eq (C8.pe_mt m_Lines_total hr (by decide) (pv 3) (pa_cons pe_str pa_nil)) (pe_callB call_len_seq (by rfl) T.f_len (by first | rfl | decide +kernel) (pa_cons (pv 4) pa_nil)) (nomark _)))))))))))), ?_⟩
    try dsimp only [cxOf, Cx.nox]
    obtain ⟨_, rfl, sa, ns, rfl, hs, hl, k⟩ := h
    walk_at "go"
    rename_i st hst
    have d0 := Dr.start hs hst hl
    walk_at "go"
    intro c0 H1 z1 z2 k1 d1
    walk_at "go"
    intro a dx ha hdx nad
    refine ⟨_, _, rfl, a, dx, 2 + c0, rfl, rfl, upd_same, by omega, by omega, fun H2 c t q dq kp hc ht hq hL hdq inj => ⟨rfl, ?_⟩⟩
    have s2 : Same H1 H2 := fun b o e => kp b (ne_of_none e ha) o (by rw [upd_ne (ne_of_none e ha), upd_ne (ne_of_none e hdx)]; exact e)
    have bc : H1 c = none := none_upd (none_upd hc)
    have bt : H1 t = none := none_upd (none_upd ht)
    generalize hn : 2 + c0 = n
    rw [hn] at hL hdq inj
    have n2 : n = 2 ∨ n = 3 ∨ n = 4 := by omega
    have bd : ∀ p ∈ allP n, H1 (dq p) = none := fun p hp => none_upd (none_upd (hdq p hp).1)
    have ed : ∀ p ∈ allP n, H2 (dq p) = some (.lst []) := fun p hp => (hdq p hp).2
    have d2 := d1.same s2
    clear kp hc ht hq hdq ha hdx nad z1 z2 d0 hst hs hn
    walk_at "go"
    rename_i G hG
    have s3 := same_new (o := .lst []) hG
    obtain ⟨w, hw⟩ : ∃ w : Wp, w = ⟨H1, st, sa, ns, a, c, t, q, G, n, dq⟩ := ⟨_, rfl⟩
    have F0 : Fx K w := by
      rw [hw]
      refine ⟨d1, by show (1 : Int) ≤ n; omega, by show n ≤ 9; omega, bc, bt, bd, same_none s2 hG, inj, fun p hp e => ?_⟩
      have h1 := ed p hp
      have e : G = dq p := e
      rw [← e, hG] at h1; cases h1
    have T0 : VL K w ⟨[], (0, 0, 0, 0), fun _ => [], [], []⟩ (upd H2 G (.lst [])) := by
      rw [hw]
      exact ⟨Kp.of (s2.trans s3), d2.same s3, hL.same s3, fun p hp => ⟨[], s3 _ _ (ed p hp), .nil⟩, upd_same, .nil, by simp, fun r hr => (by cases hr)⟩
    have I0 : Iv w.n ⟨[], (0, 0, 0, 0), fun _ => [], [], []⟩ := by
      refine ⟨fun p hp c hc => (by cases hc), fun k e he => (by cases he), ?_, rfl⟩
      show (0 : Int) + 0 = 0 + 0 + sumL (allP w.n) fun _ => []
      have key : ∀ ps : List Pq, sumL ps (fun _ => []) = 0 := by
        intro ps
        induction ps with
        | nil => rfl
        | cons x r ih =>
          show sumL ([x] ++ r) _ = 0
          rw [sumL_app, sumL_one, ih]
          rfl
      rw [key]; rfl
    have eqs : w.a = a ∧ w.G = G ∧ w.n = n ∧ w.st = st ∧ w.sc = sa ∧ w.ns = ns := by rw [hw]; exact ⟨rfl, rfl, rfl, rfl, rfl, rfl⟩
    generalize upd H2 G (.lst []) = H3 at T0 ⊢
    clear hw inj bd ed hL bc bt s2 d1 d2 s3 hl hG k1
    obtain ⟨rfl, rfl, rfl, rfl, rfl, rfl⟩ := eqs
    have d := T0.d
    walk_at "go"
    intro m H7 m0 m1 k7 d7
    have T0 := T0.kp k7 d7
    clear d k7 d7
    walk_at "go"
    refine for_rng (fun i σ H8 => ∃ (z : Vs) (v5 v6 v7 v8 v9 : Option V), σ = [some (.ref w.sc), some (.ref w.st), some (.int w.n), some (.ref w.a), some (.ref w.G), v5, v6, v7, v8, v9, none] ∧ VL K w z H8 ∧ Iv w.n z ∧ (∀ p, (z.Q p).length ≤ i) ∧ z.led.length ≤ i ∧ z.kvs.length ≤ i) ⟨_, _, _, _, _, _, rfl, T0, I0, fun p => Nat.le_refl _, Nat.le_refl _, Nat.le_refl _⟩ (fun i σ H8 hi q => ?_) (fun σ H8 q => ?_)
    · obtain ⟨z, v5, v6, v7, v8, v9, rfl, hV, hI, hz, hz2, hz3⟩ := q
      clear T0 I0
      have im : i < 71 := by omega
      have d := hV.d
      walk_at "go"
      intro x0 H9 x1 x2 k9 d9
      have hV := hV.kp k9 d9
      clear d k9 d9
      have d := hV.d
      walk_at "go"
      intro y0 H10 y1 y2 k10 d10
      have hV := hV.kp k10 d10
      clear d k10 d10
      have d := hV.d
      have hp : (1 + x0, 1 + (1 + x0 + y0) % w.n) ∈ allP w.n := by
        refine (mem_allP (by omega)).mpr ⟨?_, ?_, ?_, ?_, ?_⟩ <;> dsimp only <;> rcases n2 with h | h | h <;> (try rw [h] at x2 y2 ⊢) <;> omega
      walk_at "go"
      generalize 1 + (1 + x0 + y0) % w.n = y at hp ⊢
      generalize 1 + x0 = x at hp ⊢
      walk_at "go"
      intro kd H11 kd0 kd1 k11 d11
      have hV := hV.kp k11 d11
      clear d k11 d11
      have hzp := hz (x, y)
      refine e_cut (Mid := fun σ' H' => ∃ (z : Vs) (v9 : Option V), σ' = [some (.ref w.sc), some (.ref w.st), some (.int w.n), some (.ref w.a), some (.ref w.G), some (.int (0 + (i : Nat))), some (.int x), some (.int y), some (.int kd), v9, none] ∧ VL K w z H' ∧ Iv w.n z ∧ (∀ p, (z.Q p).length ≤ i + 1) ∧ z.led.length ≤ i + 1 ∧ z.kvs.length ≤ i + 1) ?_ ?_
      · walk_at "go"
        refine i_d (fun h1 => ?_) (fun h1 => ?_)
        · walk_at "go"
          refine ⟨_, _, _, _, rfl, w, z, x, y, rfl, rfl, rfl, rfl, F0, hV, hI, hp, by omega, by omega, fun H12 z' hV' hI' hk hq hle => ?_⟩
          walk_at "go"
          exact ⟨z', _, rfl, hV', hI', fun p => by have := hq p; have := hz p; omega, by omega, by rw [hk]; omega⟩
        · walk_at "go"
          refine i_d (fun h2 => ?_) (fun h2 => ?_)
          · walk_at "go"
            refine hV.l.me (by decide) ?_
            walk_at "go"
            refine ⟨_, _, _, rfl, w.a, w.c, w.n, z.kvs, _, _, rfl, rfl, rfl, hV.l.ln, by omega, fun H12 s12 => ?_⟩
            have := length_putK z.kvs (keyL x y) (.bl true)
            exact ⟨_, _, rfl, (hV.same s12).putC F0 _, ⟨hI.own, hI.cnt, hI.bal, hI.snt⟩, fun p => Nat.le_succ_of_le (hz p), Nat.le_succ_of_le hz2, by show (putK _ _ _).length ≤ _; omega⟩
          · walk_at "go"
            refine i_d (fun h3 => ?_) (fun h3 => ?_)
            · walk_at "go"
              refine hV.l.me (by decide) ?_
              walk_at "go"
              refine ⟨_, _, _, rfl, w.a, w.c, w.n, z.kvs, _, _, rfl, rfl, rfl, hV.l.ln, fun H12 kvs' s12 lk2 _ => ?_⟩
              exact ⟨_, _, rfl, (hV.same s12).putC F0 kvs', ⟨hI.own, hI.cnt, hI.bal, hI.snt⟩, fun p => Nat.le_succ_of_le (hz p), Nat.le_succ_of_le hz2, by show kvs'.length ≤ _; omega⟩
            · walk_at "go"
              refine hV.l.me (by decide) ?_
              walk_at "go"
              refine ⟨_, _, _, rfl, w.a, w.c, w.t, w.q, w.n, z.kvs, z.tt, _, w.dq, _, _, w.M z.rs, z.Q (x, y), rfl, rfl, rfl, hV.l, hp, hV.qd _ hp, by omega, fun D qs H12 s12 hD eD pD => ?_⟩
              have hV := hV.same s12
              have lq := prd_len pD
              have d := hV.d
              walk_at "go"
              rw [List.length_map, lq]
              walk_at "go"
              intro b H13 b0 b1 k13 d13
              have hV := hV.kp k13 d13
              clear d
              walk_at "go"
              rename_i B hB
              have s14 := same_new (o := .lst [.str "take", .str "drop", .str "double", .str "swap", .str "take"]) hB
              have hV := hV.same s14
              have eB : upd H13 B (.lst [.str "take", .str "drop", .str "double", .str "swap", .str "take"]) B = _ := upd_same
              obtain ⟨v, ev, hv⟩ : ∃ v : Str, atI [V.str "take", V.str "drop", V.str "double", V.str "swap", V.str "take"] (kd - 7) = some (.str v) ∧ (v = "take" ∨ v = "drop" ∨ v = "double" ∨ v = "swap") := by
                have : kd - 7 = 0 ∨ kd - 7 = 1 ∨ kd - 7 = 2 ∨ kd - 7 = 3 ∨ kd - 7 = 4 := by omega
                rcases this with h | h | h | h | h <;> rw [h]
                · exact ⟨_, rfl, .inl rfl⟩
                · exact ⟨_, rfl, .inr (.inl rfl)⟩
                · exact ⟨_, rfl, .inr (.inr (.inl rfl))⟩
                · exact ⟨_, rfl, .inr (.inr (.inr rfl))⟩
                · exact ⟨_, rfl, .inl rfl⟩
              refine e_ixL (SqL.of eB) ev ?_
              walk_at "go"
              refine ⟨_, _, _, _, _, _, rfl, w, z, x, y, b - 1, v, rfl, rfl, rfl, rfl, rfl, rfl, F0, hV, hI, hp, by omega, by omega, by omega, by omega, hv, fun H14 z' hV' hI' hk hq hle _ _ => ?_⟩
              walk_at "go"
              exact ⟨z', _, rfl, hV', hI', fun p => by have := hq p; have := hz p; omega, by omega, by rw [hk]; omega⟩
      · rintro σ' H12 ⟨z', v9', rfl, hV', hI', hq', hl', hk'⟩
        walk_at "go"
        refine ⟨_, rfl, w, z', rfl, F0, hV', hI', fun H13 s13 => ?_⟩
        walk_at "go"
        exact ⟨z', _, _, _, _, _, rfl, hV'.same s13, hI', hq', hl', hk'⟩
    · obtain ⟨z, v5, v6, v7, v8, v9, rfl, hV, hI, hz, hz2, hz3⟩ := q
      walk_at "go"
      refine ⟨_, _, _, _, _, rfl, w, z, rfl, rfl, rfl, rfl, rfl, F0, hV, hI, fun p => by have := hz p; omega, by omega, fun H9 z' hV' hI' he hl => ?_⟩
      have hg := hV'.g
      have lr := prd_len hV'.pp
      walk_at "go"
      intro D hD
      refine lc_prdF Row (fun _ _ _ _ s q => Row.fr (S := []) q (Fr.of s) (by simp) fun x m => (by cases m)) (SqL.of hg) hV'.pp hD (by omega) (fun e => !decide (e.2 = 0)) (fun e T2 H2 C E' he2 hT2 s2 hy hn => ?_) (fun H2 qs' s2 e2 p2 => ?_)
      · obtain ⟨P, r1, r2⟩ := hT2
        walk_at "go"
        refine e_ixL (v := .int e.2) (SqL.of r1) rfl ?_
        walk_at "go"
        refine i_nd (fun h3 => ?_) (fun h3 => ?_)
        · walk_at "go"
          exact hy (by rw [decide_eq_false h3]; rfl) _ (Same.refl _)
        · exact hn (by rw [decide_eq_true h3]; rfl) _ (Same.refl _)
      · have hnil : (z'.led.filter fun e => !decide (e.2 = 0)) = [] := by
          refine List.filter_eq_nil_iff.mpr fun e m => ?_
          obtain ⟨j, hj, ej⟩ := List.mem_iff_getElem.mp m
          obtain ⟨g1, g2⟩ := hI'.cnt j e (by rw [List.getElem?_eq_getElem hj, ej])
          rw [he _ g1] at g2
          have : e.2 = 0 := g2
          rw [decide_eq_true this]
          simp
        rw [hnil] at p2
        have lq := prd_len p2
        have hV2 := hV'.same s2
        have lz := allP_le F0.n9
        walk_at "go"
        rw [List.length_map, lq]
        walk_at "go"
        rw [decide_eq_true (show ((([] : Led).length : Nat) : Int) = 0 from rfl)]
        walk_at "go"
        refine hV2.l.me (by decide) ?_
        walk_at "go"
        refine ⟨_, _, rfl, w.a, w.c, w.t, w.q, w.n, z'.kvs, z'.tt, _, w.dq, "sent", rfl, rfl, hV2.l, lz, .inr ⟨by decide, _, tot_sent _, ?_⟩⟩
        have hg2 := hV2.g
        walk_at "go"
        rw [List.length_map, lr, decide_eq_true hI'.snt]
        exact k _
end
set_option maxHeartbeats 0
def d_Lines___init__ : He.DefD := ⟨("Lines", some "__init__"), "__init__", "Lines.__init__", defArgs s_Lines___init__, defBody s_Lines___init__, defScope s_Lines___init__, [], []⟩
def d_Lines_is_joined : He.DefD := ⟨("Lines", some "is_joined"), "is_joined", "Lines.is_joined", defArgs s_Lines_is_joined, defBody s_Lines_is_joined, defScope s_Lines_is_joined, [], []⟩
def d_Lines_cut : He.DefD := ⟨("Lines", some "cut"), "cut", "Lines.cut", defArgs s_Lines_cut, defBody s_Lines_cut, defScope s_Lines_cut, [], []⟩
def d_Lines_join : He.DefD := ⟨("Lines", some "join"), "join", "Lines.join", defArgs s_Lines_join, defBody s_Lines_join, defScope s_Lines_join, [], []⟩
def d_Lines_send : He.DefD := ⟨("Lines", some "send"), "send", "Lines.send", defArgs s_Lines_send, defBody s_Lines_send, defScope s_Lines_send, [], []⟩
def d_Lines_waiting : He.DefD := ⟨("Lines", some "waiting"), "waiting", "Lines.waiting", defArgs s_Lines_waiting, defBody s_Lines_waiting, defScope s_Lines_waiting, [], []⟩
def d_Lines_take : He.DefD := ⟨("Lines", some "take"), "take", "Lines.take", defArgs s_Lines_take, defBody s_Lines_take, defScope s_Lines_take, [], []⟩
def d_Lines_drop : He.DefD := ⟨("Lines", some "drop"), "drop", "Lines.drop", defArgs s_Lines_drop, defBody s_Lines_drop, defScope s_Lines_drop, [], []⟩
def d_Lines_double : He.DefD := ⟨("Lines", some "double"), "double", "Lines.double", defArgs s_Lines_double, defBody s_Lines_double, defScope s_Lines_double, [], []⟩
def d_Lines_swap : He.DefD := ⟨("Lines", some "swap"), "swap", "Lines.swap", defArgs s_Lines_swap, defBody s_Lines_swap, defScope s_Lines_swap, [], []⟩
def d_Lines__waits : He.DefD := ⟨("Lines", some "_waits"), "_waits", "Lines._waits", defArgs s_Lines__waits, defBody s_Lines__waits, defScope s_Lines__waits, [], []⟩
def d_Lines_total : He.DefD := ⟨("Lines", some "total"), "total", "Lines.total", defArgs s_Lines_total, defBody s_Lines_total, defScope s_Lines_total, [], []⟩
def d_line : He.DefD := ⟨("_line", none), "_line", "_line", defArgs s_line, defBody s_line, defScope s_line, [], []⟩
def d_law_draw : He.DefD := ⟨("_law_draw", none), "_law_draw", "_law_draw", defArgs s_law_draw, defBody s_law_draw, defScope s_law_draw, [], []⟩
def d_law_balanced : He.DefD := ⟨("_law_balanced", none), "_law_balanced", "_law_balanced", defArgs s_law_balanced, defBody s_law_balanced, defScope s_law_balanced, [], []⟩
def d_law_sent : He.DefD := ⟨("_law_sent", none), "_law_sent", "_law_sent", defArgs s_law_sent, defBody s_law_sent, defScope s_law_sent, [], []⟩
def d_law_number : He.DefD := ⟨("_law_number", none), "_law_number", "_law_number", defArgs s_law_number, defBody s_law_number, defScope s_law_number, [], []⟩
def d_law_counted : He.DefD := ⟨("_law_counted", none), "_law_counted", "_law_counted", defArgs s_law_counted, defBody s_law_counted, defScope s_law_counted, [], []⟩
def d_law_emptied : He.DefD := ⟨("_law_emptied", none), "_law_emptied", "_law_emptied", defArgs s_law_emptied, defBody s_law_emptied, defScope s_law_emptied, [], []⟩
def d_law : He.DefD := ⟨("law", none), "law", "law", defArgs s_law, defBody s_law, defScope s_law, [], []⟩
def fn : List He.DefD := [d_Lines___init__, d_Lines_is_joined, d_Lines_cut, d_Lines_join, d_Lines_send, d_Lines_waiting, d_Lines_take, d_Lines_drop, d_Lines_double, d_Lines_swap, d_Lines__waits, d_Lines_total, d_line, d_law_draw, d_law_balanced, d_law_sent, d_law_number, d_law_counted, d_law_emptied, d_law]
def fa : List He.Fa := [.glo "_line", .glo "_law_draw", .glo "_law_balanced", .glo "_law_sent", .glo "_law_number", .glo "_law_counted", .glo "_law_emptied", .glo "law", .glo "Lines", .free "int", .free "isinstance", .free "len", .free "list", .free "max", .free "min", .free "range", .free "sum", .meth "Lines" "is_joined", .meth "Lines" "cut", .meth "Lines" "join", .meth "Lines" "send", .meth "Lines" "waiting", .meth "Lines" "take", .meth "Lines" "drop", .meth "Lines" "double", .meth "Lines" "swap", .meth "Lines" "_waits", .meth "Lines" "total", .cls "Lines", .noat "Lines" "_count", .noat "Lines" "_cuts", .noat "Lines" "_totals", .noat "Lines" "_queues", .mkr "Lines"]
abbrev R : PySem.W.OpenRow := PySem.W.OpenLaw.row PySem.Challenge.rw_folderkin_k76_whole_no_letter_from_nowhe
abbrev hk : PySem.W.Hook := He.hookD 4 fa fn
def ob (s : PySem.W.SharedT) : He.AlD := He.obsDG 4 fa fn (HandSHeadRun.getT s)
theorem ob_eq (s : PySem.W.SharedT) : ob s = hk.obs s.abs := He.obsDG_eq (HandSHeadRun.getT_eq s)
theorem run (w : World) : HandSHeadRun.RunEq R (PySem.W.view R.prog [11]) hk ob 12000 ["_wall", "Lines", "_line", "_law_draw", "_law_balanced", "_law_sent", "_law_number", "_law_counted", "_law_emptied"] w := by
  intro os
  kernel_rfl
theorem facts {P : Program} {w : World} {K : PySem.W.Frag} {h : Heap} {mg : Str → Option Value} {f : Addr} (X : K.In h) (G : h.Ns mainGlobals mg) (hfa : mg ("law" : Str) = some (.ref f)) (cc : He.SaysD fa fn K) :
    ∃ fd : FuncData, (∀ (s : Shared) (v : Value), BindsTo s fd ⟨[v], []⟩ [("script", v)]) ∧ ∀ base : Heap, K.In base → base.Ns mainGlobals mg → FnOk P w K mg base CX0 6 f fd ["script"] (sp_law K) := by
  have c : He.SaysD fa fn K := cc
  have T : Txt K mg := ⟨He.free_ok X G (c.fact 9 (f := .free "int") rfl), He.free_ok X G (c.fact 10 (f := .free "isinstance") rfl), He.free_ok X G (c.fact 11 (f := .free "len") rfl), He.free_ok X G (c.fact 12 (f := .free "list") rfl), He.free_ok X G (c.fact 13 (f := .free "max") rfl), He.free_ok X G (c.fact 14 (f := .free "min") rfl), He.free_ok X G (c.fact 15 (f := .free "range") rfl), He.free_ok X G (c.fact 16 (f := .free "sum") rfl), He.cls_ok (c.fact 28 (f := .cls "Lines") rfl), He.glo_ok X G (c.fact 8 (f := .glo "Lines") rfl), He.noat_ok (c.fact 29 (f := .noat "Lines" "_count") rfl), He.noat_ok (c.fact 30 (f := .noat "Lines" "_cuts") rfl), He.noat_ok (c.fact 31 (f := .noat "Lines" "_totals") rfl), He.noat_ok (c.fact 32 (f := .noat "Lines" "_queues") rfl)⟩
  obtain ⟨fd_Lines___init__, F_Lines___init__⟩ := c.def_ 0 (d := d_Lines___init__) rfl
  have M_Lines := He.mkr_ok (c.fact 33 (f := .mkr "Lines") rfl)
  have c_Lines : ∀ base : Heap, C8.Mak P w K mg base 1 "Lines" (He.ga K "Lines") (sp_Lines___init__ K) [] := fun base => ⟨_, _, _, [], M_Lines, ok_Lines___init__ T  F_Lines___init__, He.glo_ok X G (c.fact 8 (f := .glo "Lines") rfl), FunD.bindsN F_Lines___init__ fun _ _ _ _ _ _ us hl => match us, hl with | [_, _], _ => rfl, .nil⟩
  obtain ⟨fd_Lines_waiting, F_Lines_waiting⟩ := c.def_ 5 (d := d_Lines_waiting) rfl
  have m_Lines_waiting : ∀ base : Heap, C8.Met P w K mg base 1 (He.ga K "Lines") "waiting" (sp_Lines_waiting K) [] := fun base => ⟨_, _, ["self", "source", "target"], [], He.cls_ok (c.fact 28 (f := .cls "Lines") rfl), He.meth_ok (c.fact 21 (f := .meth "Lines" "waiting") rfl), ok_Lines_waiting T  F_Lines_waiting, FunD.bindsN F_Lines_waiting fun _ _ _ _ _ _ us hl => match us, hl with | [_, _, _], _ => rfl, .nil⟩
  obtain ⟨fd_Lines__waits, F_Lines__waits⟩ := c.def_ 10 (d := d_Lines__waits) rfl
  have m_Lines__waits : ∀ base : Heap, C8.Met P w K mg base 1 (He.ga K "Lines") "_waits" (sp_Lines__waits K) [] := fun base => ⟨_, _, ["self", "source", "target", "index"], [], He.cls_ok (c.fact 28 (f := .cls "Lines") rfl), He.meth_ok (c.fact 26 (f := .meth "Lines" "_waits") rfl), ok_Lines__waits T  F_Lines__waits, FunD.bindsN F_Lines__waits fun _ _ _ _ _ _ us hl => match us, hl with | [_, _, _, _], _ => rfl, .nil⟩
  obtain ⟨fd_Lines_total, F_Lines_total⟩ := c.def_ 11 (d := d_Lines_total) rfl
  have m_Lines_total : ∀ base : Heap, C8.Met P w K mg base 1 (He.ga K "Lines") "total" (sp_Lines_total K) [] := fun base => ⟨_, _, ["self", "word"], [], He.cls_ok (c.fact 28 (f := .cls "Lines") rfl), He.meth_ok (c.fact 27 (f := .meth "Lines" "total") rfl), ok_Lines_total T  F_Lines_total, FunD.bindsN F_Lines_total fun _ _ _ _ _ _ us hl => match us, hl with | [_, _], _ => rfl, .nil⟩
  obtain ⟨fd_line, F_line⟩ := c.def_ 12 (d := d_line) rfl
  have c_line : ∀ base : Heap, Cal P w K mg base 1 "_line" (sp_line K) := fun base => ⟨_, _, ["first", "second"], ok_line T  F_line, He.glo_ok X G (c.fact 0 (f := .glo "_line") rfl), F_line.kp, FunD.bindsN F_line fun _ _ _ _ _ _ us hl => match us, hl with | [_, _], _ => rfl⟩
  obtain ⟨fd_law_draw, F_law_draw⟩ := c.def_ 13 (d := d_law_draw) rfl
  have c_law_draw : ∀ base : Heap, Cal P w K mg base 1 "_law_draw" (spDraw K) := fun base => ⟨_, _, ["state", "script", "size"], ok_law_draw T  F_law_draw, He.glo_ok X G (c.fact 1 (f := .glo "_law_draw") rfl), F_law_draw.kp, FunD.bindsN F_law_draw fun _ _ _ _ _ _ us hl => match us, hl with | [_, _, _], _ => rfl⟩
  obtain ⟨fd_law_number, F_law_number⟩ := c.def_ 16 (d := d_law_number) rfl
  have c_law_number : ∀ base : Heap, Cal P w K mg base 1 "_law_number" (sp_law_number K) := fun base => ⟨_, _, ["data", "source"], ok_law_number T  F_law_number, He.glo_ok X G (c.fact 4 (f := .glo "_law_number") rfl), F_law_number.kp, FunD.bindsN F_law_number fun _ _ _ _ _ _ us hl => match us, hl with | [_, _], _ => rfl⟩
  obtain ⟨fd_Lines_is_joined, F_Lines_is_joined⟩ := c.def_ 1 (d := d_Lines_is_joined) rfl
  have m_Lines_is_joined : ∀ base : Heap, C8.Met P w K mg base 2 (He.ga K "Lines") "is_joined" (sp_Lines_is_joined K) [] := fun base => ⟨_, _, ["self", "first", "second"], [], He.cls_ok (c.fact 28 (f := .cls "Lines") rfl), He.meth_ok (c.fact 17 (f := .meth "Lines" "is_joined") rfl), ok_Lines_is_joined T (c_line base) F_Lines_is_joined, FunD.bindsN F_Lines_is_joined fun _ _ _ _ _ _ us hl => match us, hl with | [_, _, _], _ => rfl, .nil⟩
  obtain ⟨fd_Lines_cut, F_Lines_cut⟩ := c.def_ 2 (d := d_Lines_cut) rfl
  have m_Lines_cut : ∀ base : Heap, C8.Met P w K mg base 2 (He.ga K "Lines") "cut" (sp_Lines_cut K) [] := fun base => ⟨_, _, ["self", "first", "second"], [], He.cls_ok (c.fact 28 (f := .cls "Lines") rfl), He.meth_ok (c.fact 18 (f := .meth "Lines" "cut") rfl), ok_Lines_cut T (c_line base) F_Lines_cut, FunD.bindsN F_Lines_cut fun _ _ _ _ _ _ us hl => match us, hl with | [_, _, _], _ => rfl, .nil⟩
  obtain ⟨fd_Lines_drop, F_Lines_drop⟩ := c.def_ 7 (d := d_Lines_drop) rfl
  have m_Lines_drop : ∀ base : Heap, C8.Met P w K mg base 2 (He.ga K "Lines") "drop" (sp_Lines_drop K) [] := fun base => ⟨_, _, ["self", "source", "target", "index"], [], He.cls_ok (c.fact 28 (f := .cls "Lines") rfl), He.meth_ok (c.fact 23 (f := .meth "Lines" "drop") rfl), ok_Lines_drop T (m_Lines__waits base) F_Lines_drop, FunD.bindsN F_Lines_drop fun _ _ _ _ _ _ us hl => match us, hl with | [_, _, _, _], _ => rfl, .nil⟩
  obtain ⟨fd_Lines_double, F_Lines_double⟩ := c.def_ 8 (d := d_Lines_double) rfl
  have m_Lines_double : ∀ base : Heap, C8.Met P w K mg base 2 (He.ga K "Lines") "double" (sp_Lines_double K) [] := fun base => ⟨_, _, ["self", "source", "target", "index"], [], He.cls_ok (c.fact 28 (f := .cls "Lines") rfl), He.meth_ok (c.fact 24 (f := .meth "Lines" "double") rfl), ok_Lines_double T (m_Lines__waits base) F_Lines_double, FunD.bindsN F_Lines_double fun _ _ _ _ _ _ us hl => match us, hl with | [_, _, _, _], _ => rfl, .nil⟩
  obtain ⟨fd_Lines_swap, F_Lines_swap⟩ := c.def_ 9 (d := d_Lines_swap) rfl
  have m_Lines_swap : ∀ base : Heap, C8.Met P w K mg base 2 (He.ga K "Lines") "swap" (sp_Lines_swap K) [] := fun base => ⟨_, _, ["self", "source", "target", "index"], [], He.cls_ok (c.fact 28 (f := .cls "Lines") rfl), He.meth_ok (c.fact 25 (f := .meth "Lines" "swap") rfl), ok_Lines_swap T (m_Lines__waits base) F_Lines_swap, FunD.bindsN F_Lines_swap fun _ _ _ _ _ _ us hl => match us, hl with | [_, _, _, _], _ => rfl, .nil⟩
  obtain ⟨fd_law_balanced, F_law_balanced⟩ := c.def_ 14 (d := d_law_balanced) rfl
  have c_law_balanced : ∀ base : Heap, Cal P w K mg base 2 "_law_balanced" (sp_law_balanced K) := fun base => ⟨_, _, ["lines"], ok_law_balanced T (m_Lines_total base) F_law_balanced, He.glo_ok X G (c.fact 2 (f := .glo "_law_balanced") rfl), F_law_balanced.kp, FunD.bindsN F_law_balanced fun _ _ _ _ _ _ us hl => match us, hl with | [_], _ => rfl⟩
  obtain ⟨fd_Lines_join, F_Lines_join⟩ := c.def_ 3 (d := d_Lines_join) rfl
  have m_Lines_join : ∀ base : Heap, C8.Met P w K mg base 3 (He.ga K "Lines") "join" (sp_Lines_join K) [] := fun base => ⟨_, _, ["self", "first", "second"], [], He.cls_ok (c.fact 28 (f := .cls "Lines") rfl), He.meth_ok (c.fact 19 (f := .meth "Lines" "join") rfl), ok_Lines_join T (m_Lines_is_joined base) (c_line base) F_Lines_join, FunD.bindsN F_Lines_join fun _ _ _ _ _ _ us hl => match us, hl with | [_, _, _], _ => rfl, .nil⟩
  obtain ⟨fd_Lines_send, F_Lines_send⟩ := c.def_ 4 (d := d_Lines_send) rfl
  have m_Lines_send : ∀ base : Heap, C8.Met P w K mg base 3 (He.ga K "Lines") "send" (sp_Lines_send K) [] := fun base => ⟨_, _, ["self", "source", "target", "data"], [], He.cls_ok (c.fact 28 (f := .cls "Lines") rfl), He.meth_ok (c.fact 20 (f := .meth "Lines" "send") rfl), ok_Lines_send T (m_Lines_is_joined base) F_Lines_send, FunD.bindsN F_Lines_send fun _ _ _ _ _ _ us hl => match us, hl with | [_, _, _, _], _ => rfl, .nil⟩
  obtain ⟨fd_Lines_take, F_Lines_take⟩ := c.def_ 6 (d := d_Lines_take) rfl
  have m_Lines_take : ∀ base : Heap, C8.Met P w K mg base 3 (He.ga K "Lines") "take" (sp_Lines_take K) [] := fun base => ⟨_, _, ["self", "source", "target", "index"], [], He.cls_ok (c.fact 28 (f := .cls "Lines") rfl), He.meth_ok (c.fact 22 (f := .meth "Lines" "take") rfl), ok_Lines_take T (m_Lines__waits base) (m_Lines_is_joined base) F_Lines_take, FunD.bindsN F_Lines_take fun _ _ _ _ _ _ us hl => match us, hl with | [_, _, _, _], _ => rfl, .nil⟩
  obtain ⟨fd_law_sent, F_law_sent⟩ := c.def_ 15 (d := d_law_sent) rfl
  have c_law_sent : ∀ base : Heap, Cal P w K mg base 4 "_law_sent" (sp_law_sent K) := fun base => ⟨_, _, ["lines", "ledger", "source", "target"], ok_law_sent T (m_Lines_send base) F_law_sent, He.glo_ok X G (c.fact 3 (f := .glo "_law_sent") rfl), F_law_sent.kp, FunD.bindsN F_law_sent fun _ _ _ _ _ _ us hl => match us, hl with | [_, _, _, _], _ => rfl⟩
  obtain ⟨fd_law_counted, F_law_counted⟩ := c.def_ 17 (d := d_law_counted) rfl
  have c_law_counted : ∀ base : Heap, Cal P w K mg base 4 "_law_counted" (sp_law_counted K) := fun base => ⟨_, _, ["lines", "ledger", "source", "target", "at", "word"], ok_law_counted T (m_Lines_waiting base) (c_law_number base) (m_Lines_swap base) (m_Lines_take base) (m_Lines_drop base) (m_Lines_double base) F_law_counted, He.glo_ok X G (c.fact 5 (f := .glo "_law_counted") rfl), F_law_counted.kp, FunD.bindsN F_law_counted fun _ _ _ _ _ _ us hl => match us, hl with | [_, _, _, _, _, _], _ => rfl⟩
  obtain ⟨fd_law_emptied, F_law_emptied⟩ := c.def_ 18 (d := d_law_emptied) rfl
  have c_law_emptied : ∀ base : Heap, Cal P w K mg base 5 "_law_emptied" (sp_law_emptied K) := fun base => ⟨_, _, ["lines", "ledger", "state", "script", "count"], ok_law_emptied T (m_Lines_join base) (m_Lines_waiting base) (c_law_draw base) (c_law_balanced base) (c_law_counted base) (m_Lines_total base) F_law_emptied, He.glo_ok X G (c.fact 6 (f := .glo "_law_emptied") rfl), F_law_emptied.kp, FunD.bindsN F_law_emptied fun _ _ _ _ _ _ us hl => match us, hl with | [_, _, _, _, _], _ => rfl⟩
  obtain ⟨fd_law, F_law⟩ := c.def_ 19 (d := d_law) rfl
  have e := hfa.symm.trans (He.glo_ok X G (c.fact 7 (f := .glo "law") rfl))
  cases e
  have b := FunD.bindsA (ps := ["script"]) F_law fun _ _ _ _ _ _ us hl => match us, hl with | [_], _ => rfl
  exact ⟨fd_law, fun s v => b s [v] rfl, fun base _ _ => ok_law T (c_Lines base) (c_law_draw base) (c_law_sent base) (m_Lines_cut base) (m_Lines_join base) (m_Lines_waiting base) (c_law_counted base) (c_law_balanced base) (c_law_emptied base) (m_Lines_total base) F_law⟩
end Vk76
set_option maxHeartbeats 0
open PySem PySem.W PySem.Calls PyProof.Rows
theorem PySem.Challenge.cw_folderkin_k76_whole_no_letter_from_nowhe_holds : PySem.Challenge.rw_folderkin_k76_whole_no_letter_from_nowhe.Holds := by
  w_on; o_law
  refine HandSHeadRun.head_any (r := OpenLaw.row PySem.Challenge.rw_folderkin_k76_whole_no_letter_from_nowhe) (q := view (OpenLaw.row PySem.Challenge.rw_folderkin_k76_whole_no_letter_from_nowhe).prog [11]) (H := Vk76.hk) (ob := Vk76.ob) (M := 12000) (loose := ["_wall", "Lines", "_line", "_law_draw", "_law_balanced", "_law_sent", "_law_number", "_law_counted", "_law_emptied"]) (d := HandSHeadRun.topDef (OpenLaw.row PySem.Challenge.rw_folderkin_k76_whole_no_letter_from_nowhe).prog 11) (kwd := []) Vk76.ob_eq
    (by kernel_rfl) (fun s => by kernel_rfl) Vk76.run (by kernel_rfl) (by kernel_rfl) (by kernel_rfl) (by rfl) (by first | assumption | decide +kernel) (by decide +kernel) ⟨rfl, rfl, rfl, rfl, rfl, by decide +kernel⟩ ?hw ?hc
  case hw => w_witness2
  case hc =>
    refine L2.walk_ofE (l := PySem.Challenge.rw_folderkin_k76_whole_no_letter_from_nowhe) (n := 63) (k := 6) (x := "script") (CX := L2.CX0) rfl (by decide) (by kernel_rfl) ⟨rfl, by decide, by decide⟩ ?F (fun _ _ _ _ z => z)
    intro w mg fa h Y G hmg0
    obtain ⟨K, KX, c⟩ := Y
    have hmg : mg ("law" : PySem.Str) = some (.ref fa) := by
      have e : (HandSHeadRun.topDef (OpenLaw.row PySem.Challenge.rw_folderkin_k76_whole_no_letter_from_nowhe).prog 11).name = ("law" : PySem.Str) := by kernel_rfl
      rw [← e]
      exact hmg0
    obtain ⟨fd, hb, hF⟩ := Vk76.facts (P := (PySem.Challenge.rw_folderkin_k76_whole_no_letter_from_nowhe).prog) (w := w) KX G hmg c
    exact ⟨K, fd, Vk76.sp_law K, KX, hb, fun H a ns hl _ hS => ⟨_, rfl, a, ns, rfl, hS, hl, fun _ => rfl⟩, hF⟩
