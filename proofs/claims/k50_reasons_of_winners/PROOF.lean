import PyProof.Rows.All
import Wide.All
import OpenK.AllK
import Wide.FinOn
import KE.KStateDown
import HandS.ForMost
import HandS.Codes
import HandS.Defaults
import HandS.Flow
import HandS.Walk
import HandS.Wide
import HandS.IsInst
import HandS.Iter
import KE.GoesMore
import KE.GoesEnum
import KE.LtData
import KE.DataCmp
import HandS.WideBits
import HandS.RevRange
import HandS.TupLe
import HandS.TupAny
import HandS.Style
import HandS.Dict
import HandS.More
import KE.KDictPairs
import KE.OsGo
import HandS.ForSpec
import HandS.ExcIs
import KE.KExcIs
import HandS.Head0
import HandS.Head1
import HandS.Head2
import HandS.HeadEnd
import HandS.HeadHook1
import HandS.HeadHook2
import HandS.OwnEq
import HandS.MakeKw
import KE.DataEq
import HandS.DictTup
import HandS.Deep
import KE.KDictWalk
import HandS.Gcd
import HandS.Text
import HandS.StrMore
import HandS.SortKw
import KE.DataMinKey
import HandS.FStr
import PyProof.NeKinds
import HandS.DictComp
import HandS.SetKeys
import KE.KEqDict
import HandS.SetFor
import HandS.Strs
import KE.DataFind
import HandS.Zip
import KE.KDictZip
import PyProof.InstNe
import Lean
import PySem.Challenge.RW_folderkin_k50_reasons_of_winners
set_option Elab.async false
set_option linter.all false
set_option maxRecDepth 100000
set_option maxHeartbeats 4000000
namespace Vf
open PySem L2 PySem.Spec PyProof.Rows

/-- what is left of a loop, of a comprehension, behind what it walks -/
def ForB (J : It) (g : TG) (t : TS) (D : Ends) (σ : L2.St) (H1 : Hp) : Prop := ∃ W : Nat → Nat → L2.St → Hp → Prop, (∃ m, W 0 m σ H1) ∧ ∀ i m σ H, W i m σ H →
  (J.stop i H ∧ D.nx σ H) ∨ (J.go i H ∧ ∃ N : L2.St → Hp → Prop, (∀ σ' H', N σ' H' → ∃ m', m' < m ∧ W (i + 1) m' σ' H') ∧ ∀ x H', J.yld i H x H' → g x σ H' fun σ2 H2 => t { D with nx := N, ct := N, bk := D.nx } σ2 H2)
def LcB (J : It) (g : TG) (tt : TT) (te : TE) (vs : List Nat) (σ : L2.St) (D : Addr) (H1 : Hp) (Q : VK) : Prop := ∃ W : Nat → Nat → Hp → Prop, (∃ m, W 0 m (upd H1 D (.lst []))) ∧ ∀ i m H, W i m H →
  (J.stop i H ∧ Q (.ref D) H) ∨ (J.go i H ∧
    ∃ Nx : Hp → Prop, (∀ H', Nx H' → ∃ m', m' < m ∧ W (i + 1) m' H') ∧
    ∀ x H', J.yld i H x H' → g x (wipe σ vs) H' fun σ2 H2 => wipe σ2 vs = wipe σ vs ∧ tt σ2 H2 fun b H3 =>
    if b = true then te σ2 H3 fun y H4 => 
      ∃ acc, H4 D = some (.lst acc) ∧ acc.length < sizeLine ∧
      Nx (upd H4 D (.lst (acc ++ [y]))) else Nx H3)
section
variable {K : PySem.W.Frag} {g : TG} {t : TS} {D : Ends} {σ : L2.St} {H : Hp} {tt : TT} {te : TE} {vs : List Nat} {Q : VK} {Da : Addr}
/-- for c in z, a text: Pv by the signs gone -/
theorem for_str {z : Str} (Pv : List Nat → L2.St → Hp → Prop) (h0 : Pv [] σ H)
    (hs : ∀ (pre : List Nat) (c : Nat) (post : List Nat) σ H, z.cps.toList = pre ++ c :: post → Pv pre σ H → g (.str ⟨#[c]⟩) σ H fun σ2 H2 => t { D with nx := Pv (pre ++ [c]), ct := Pv (pre ++ [c]), bk := D.nx } σ2 H2)
    (hd : ∀ σ H, Pv z.cps.toList σ H → D.nx σ H) : ForB (Its z) g t D σ H := by
  refine for_it walk_str (fun i => Pv (z.cps.toList.take i)) (by simpa using h0) (fun _ _ _ _ _ => trivial) (fun i x σ H H' hi p y => ?_) (fun σ H p => ?_)
  · obtain ⟨e, c, hc, hx⟩ := y
    subst e hx
    have hc' : z.cps.toList[i]? = some c := by simpa using hc
    have hi' : i < z.cps.toList.length := by simpa using hi
    have e1 : z.cps.toList = z.cps.toList.take i ++ c :: z.cps.toList.drop (i + 1) := by
      have e2 := (List.getElem?_eq_some_iff.mp hc').2
      rw [← e2, List.getElem_cons_drop, List.take_append_drop]
    have e3 : z.cps.toList.take (i + 1) = z.cps.toList.take i ++ [c] := by
      rw [List.take_add_one, hc']; rfl
    rw [e3]
    exact hs _ c _ σ _ e1 p
  · refine hd σ H ?_
    have e : z.cps.toList.take z.cps.size = z.cps.toList := List.take_of_length_le (by simp)
    rw [← e]
    exact p
theorem lc_str {z : Str} (Pv : List Nat → Hp → Prop) (h0 : Pv [] (upd H Da (.lst [])))
    (hs : ∀ (pre : List Nat) (c : Nat) (post : List Nat) H, z.cps.toList = pre ++ c :: post → Pv pre H → g (.str ⟨#[c]⟩) (wipe σ vs) H fun σ2 H2 => wipe σ2 vs = wipe σ vs ∧ tt σ2 H2 fun b H3 =>
      if b = true then te σ2 H3 fun y H4 => ∃ acc, H4 Da = some (.lst acc) ∧ acc.length < sizeLine ∧ Pv (pre ++ [c]) (upd H4 Da (.lst (acc ++ [y]))) else Pv (pre ++ [c]) H3)
    (hd : ∀ H, Pv z.cps.toList H → Q (.ref Da) H) : LcB (Its z) g tt te vs σ Da H Q := by
  refine lc_it walk_str (fun i => Pv (z.cps.toList.take i)) (by simpa using h0) (fun _ _ _ _ => trivial) (fun i x H H' hi p y => ?_) (fun H p => ?_)
  · obtain ⟨e, c, hc, hx⟩ := y
    subst e hx
    have hc' : z.cps.toList[i]? = some c := by simpa using hc
    have e1 : z.cps.toList = z.cps.toList.take i ++ c :: z.cps.toList.drop (i + 1) := by
      have e2 := (List.getElem?_eq_some_iff.mp hc').2
      rw [← e2, List.getElem_cons_drop, List.take_append_drop]
    have e3 : z.cps.toList.take (i + 1) = z.cps.toList.take i ++ [c] := by
      rw [List.take_add_one, hc']; rfl
    rw [e3]
    exact hs _ c _ _ e1 p
  · refine hd H ?_
    have e : z.cps.toList.take z.cps.size = z.cps.toList := List.take_of_length_le (by simp)
    rw [← e]
    exact p
theorem for_rng {lo : Int} {n : Nat} (Pv : Nat → L2.St → Hp → Prop) (h0 : Pv 0 σ H)
    (hs : ∀ i σ H, i < n → Pv i σ H → g (.int (lo + i)) σ H fun σ2 H2 => t { D with nx := Pv (i + 1), ct := Pv (i + 1), bk := D.nx } σ2 H2) (hd : ∀ σ H, Pv n σ H → D.nx σ H) : ForB (Itr lo n) g t D σ H := for_range Pv h0 hs hd
theorem lc_rng {lo : Int} {n : Nat} (Pv : Nat → Hp → Prop) (h0 : Pv 0 (upd H Da (.lst [])))
    (hs : ∀ i H, i < n → Pv i H → g (.int (lo + i)) (wipe σ vs) H 
      fun σ2 H2 => wipe σ2 vs = wipe σ vs ∧ tt σ2 H2 fun b H3 =>
      if b = true then te σ2 H3 fun y H4 => ∃ acc, H4 Da = some (.lst acc) ∧ acc.length < sizeLine ∧ Pv (i + 1) (upd H4 Da (.lst (acc ++ [y]))) else Pv (i + 1) H3) (hd : ∀ H, Pv n H → Q (.ref Da) H) :
    LcB (Itr lo n) g tt te vs σ Da H Q := lc_range Pv h0 hs hd
/-- for x in xs, a list: Pv by what was taken -/
theorem for_lst {a : Addr} {xs : List V} (Pv : List V → L2.St → Hp → Prop) (h0 : Pv [] σ H) (hl : ∀ pre σ H, Pv pre σ H → SqL K H a xs)
    (hs : ∀ (pre : List V) (x : V) (post : List V) σ H, xs = pre ++ x :: post → Pv pre σ H → g x σ H fun σ2 H2 => t { D with nx := Pv (pre ++ [x]), ct := Pv (pre ++ [x]), bk := D.nx } σ2 H2)
    (hd : ∀ σ H, Pv xs σ H → D.nx σ H) : ForB (Itl K a) g t D σ H := by
  refine for_list (xs := xs) (fun i => Pv (xs.take i)) (by simpa using h0) (fun i σ H _ p => hl _ σ H p) (fun i x σ H hx p => ?_) (fun σ H p => ?_)
  · have e1 : xs = xs.take i ++ x :: xs.drop (i + 1) := by
      have e2 := (List.getElem?_eq_some_iff.mp hx).2
      rw [← e2, List.getElem_cons_drop, List.take_append_drop]
    have e3 : xs.take (i + 1) = xs.take i ++ [x] := by
      rw [List.take_add_one, hx]; rfl
    rw [e3]
    exact hs _ x _ σ H e1 p
  · rw [List.take_length] at p
    exact hd σ H p
theorem lc_lst {a : Addr} {xs : List V} (Pv : List V → Hp → Prop) (h0 : Pv [] (upd H Da (.lst []))) (hl : ∀ pre H, Pv pre H → SqL K H a xs)
    (hs : ∀ (pre : List V) (x : V) (post : List V) H, xs = pre ++ x :: post → Pv pre H → g x (wipe σ vs) H fun σ2 H2 => wipe σ2 vs = wipe σ vs ∧ tt σ2 H2 fun b H3 =>
      if b = true then te σ2 H3 fun y H4 => ∃ acc, H4 Da = some (.lst acc) ∧ acc.length < sizeLine ∧ Pv (pre ++ [x]) (upd H4 Da (.lst (acc ++ [y]))) else Pv (pre ++ [x]) H3)
    (hd : ∀ H, Pv xs H → Q (.ref Da) H) : LcB (Itl K a) g tt te vs σ Da H Q := by
  refine lc_list (xs := xs) (fun i => Pv (xs.take i)) (by simpa using h0) (fun i H _ p => hl _ H p) (fun i x H hx p => ?_) (fun H p => ?_)
  · have e1 : xs = xs.take i ++ x :: xs.drop (i + 1) := by
      have e2 := (List.getElem?_eq_some_iff.mp hx).2
      rw [← e2, List.getElem_cons_drop, List.take_append_drop]
    have e3 : xs.take (i + 1) = xs.take i ++ [x] := by
      rw [List.take_add_one, hx]; rfl
    rw [e3]
    exact hs _ x _ H e1 p
  · rw [List.take_length] at p
    exact hd H p
theorem for_tpl {a : Addr} {xs : List V} (Pv : List V → L2.St → Hp → Prop) (h0 : Pv [] σ H) (hl : ∀ pre σ H, Pv pre σ H → SqT K H a xs)
    (hs : ∀ (pre : List V) (x : V) (post : List V) σ H, xs = pre ++ x :: post → Pv pre σ H → g x σ H fun σ2 H2 => t { D with nx := Pv (pre ++ [x]), ct := Pv (pre ++ [x]), bk := D.nx } σ2 H2)
    (hd : ∀ σ H, Pv xs σ H → D.nx σ H) : ForB (Itt K a) g t D σ H := by
  refine for_tup (xs := xs) (fun i => Pv (xs.take i)) (by simpa using h0) (fun i σ H _ p => hl _ σ H p) (fun i x σ H hx p => ?_) (fun σ H p => ?_)
  · have e1 : xs = xs.take i ++ x :: xs.drop (i + 1) := by
      have e2 := (List.getElem?_eq_some_iff.mp hx).2
      rw [← e2, List.getElem_cons_drop, List.take_append_drop]
    have e3 : xs.take (i + 1) = xs.take i ++ [x] := by
      rw [List.take_add_one, hx]; rfl
    rw [e3]
    exact hs _ x _ σ H e1 p
  · rw [List.take_length] at p
    exact hd σ H p
end

/-! ### readings, one lemma a head -/
section
variable {σ : L2.St} {H : Hp} {Q : VK} {D : Ends} {te ta tb tx : TE} {tt tu : TT} {t u : TS} {as : TA} {r r' : R2} {x y v : V} {K : PySem.W.Frag}
theorem e_var {i : Nat} (h : σ[i]? = some (some v)) (q : Q v H) : tVar i σ H Q := ⟨v, h, q⟩
theorem e_c (q : Q v H) : tC v σ H Q := q
theorem e_op (q : ta σ H fun x H1 => tb σ H1 fun y H2 => r x y H2 Q) : tOp r ta tb σ H Q := q
theorem e_un {r : V → Hp → VK → Prop} (q : ta σ H fun x H1 => r x H1 Q) : tUn r ta σ H Q := q
theorem e_I0 {g : Int → Int → V} {i j : Int} (q : Q (g i j) H) : rI0 g (.int i) (.int j) H Q := ⟨i, j, rfl, rfl, q⟩
theorem e_I {C : Int → Int → Prop} {g : Int → Int → V} {i j : Int} (c : C i j) (q : Q (g i j) H) : rI C g (.int i) (.int j) H Q := ⟨i, j, rfl, rfl, c, q⟩
theorem e_U {g : Int → V} {i : Int} (q : Q (g i) H) : rU g (.int i) H Q := ⟨i, rfl, q⟩
theorem e_eq (s : scal x y = true) (q : Q (.bl (decide (x = y))) H) : rEq x y H Q := ⟨s, q⟩
theorem e_ne (s : scal x y = true) (q : Q (.bl (!decide (x = y))) H) : rNe x y H Q := ⟨s, q⟩
theorem e_eqI {i j : Int} (q : Q (.bl (decide (i = j))) H) : rEq (.int i) (.int j) H Q := ⟨rfl, by
  have e : decide (V.int i = V.int j) = decide (i = j) := by
    by_cases h : i = j
    · rw [h]; simp
    · rw [decide_eq_false h, decide_eq_false (fun z => h (V.int.inj z))]
  rw [e]; exact q⟩
theorem e_neI {i j : Int} (q : Q (.bl (!decide (i = j))) H) : rNe (.int i) (.int j) H Q := ⟨rfl, by
  have e : decide (V.int i = V.int j) = decide (i = j) := by
    by_cases h : i = j
    · rw [h]; simp
    · rw [decide_eq_false h, decide_eq_false (fun z => h (V.int.inj z))]
  rw [e]; exact q⟩
theorem e_eqS {i j : Str} (q : Q (.bl (decide (i = j))) H) : rEq (.str i) (.str j) H Q := ⟨rfl, by
  have e : decide (V.str i = V.str j) = decide (i = j) := by
    by_cases h : i = j
    · rw [h]; simp
    · rw [decide_eq_false h, decide_eq_false (fun z => h (V.str.inj z))]
  rw [e]; exact q⟩
theorem e_neS {i j : Str} (q : Q (.bl (!decide (i = j))) H) : rNe (.str i) (.str j) H Q := ⟨rfl, by
  have e : decide (V.str i = V.str j) = decide (i = j) := by
    by_cases h : i = j
    · rw [h]; simp
    · rw [decide_eq_false h, decide_eq_false (fun z => h (V.str.inj z))]
  rw [e]; exact q⟩
theorem e_eqB {i j : Bool} (q : Q (.bl (i == j)) H) : rEq (.bl i) (.bl j) H Q := ⟨rfl, by
  have e : decide (V.bl i = V.bl j) = (i == j) := by cases i <;> cases j <;> rfl
  rw [e]; exact q⟩
theorem e_neB {i j : Bool} (q : Q (.bl (i != j)) H) : rNe (.bl i) (.bl j) H Q := ⟨rfl, by
  have e : (!decide (V.bl i = V.bl j)) = (i != j) := by cases i <;> cases j <;> rfl
  rw [e]; exact q⟩
theorem e_test {Q : Bool → Hp → Prop} (q : te σ H fun x H' => ∃ k, x = .bl k ∧ Q k H') : tTest te σ H Q := q
theorem e_B {Q : Bool → Hp → Prop} (q : te σ H fun x H' => ∃ k, x = .bl k ∧ Q k H') : tB te σ H Q := q
theorem e_ex {b : Bool} {P : Bool → Prop} (q : P b) : ∃ k, V.bl b = .bl k ∧ P k := ⟨b, rfl, q⟩
theorem e_and {Q : Bool → Hp → Prop} (q : tt σ H fun c H1 => if c = true then tu σ H1 Q else Q false H1) : tAnd tt tu σ H Q := q
theorem e_or {Q : Bool → Hp → Prop} (q : tt σ H fun c H1 => if c = true then Q true H1 else tu σ H1 Q) : tOr tt tu σ H Q := q
theorem e_not {Q : Bool → Hp → Prop} (q : tt σ H fun c H1 => Q (!c) H1) : tNot tt σ H Q := q
theorem e_yes {Q : Bool → Hp → Prop} (q : Q true H) : tYes σ H Q := q
theorem e_andV (q : ta σ H fun x H1 => ∃ c, x = .bl c ∧ if c = true then tb σ H1 Q else Q (.bl false) H1) : tAndV ta tb σ H Q := q
theorem e_orV (q : ta σ H fun x H1 => ∃ c, x = .bl c ∧ if c = true then Q (.bl true) H1 else tb σ H1 Q) : tOrV ta tb σ H Q := q
theorem e_notV (q : ta σ H fun x H1 => ∃ c, x = .bl c ∧ Q (.bl (!c)) H1) : tNotV ta σ H Q := q
theorem e_if (q : tt σ H fun c H1 => if c = true then ta σ H1 Q else tb σ H1 Q) : tIf tt ta tb σ H Q := q
theorem e_chain (q : ta σ H fun x H1 => tb σ H1 fun y H2 => r x y H2 fun z H3 => ∃ k, z = .bl k ∧ (if k = true then tx σ H3 fun w' H4 => r' y w' H4 Q else Q (.bl false) H3)) : tChain r r' ta tb tx σ H Q := q
theorem e_seq (q : t { D with nx := u D } σ H) : tSeq t u D σ H := q
theorem e_next (q : D.nx σ H) : tNext D σ H := q
theorem e_break (q : D.bk σ H) : tBreak D σ H := q
theorem e_cont (q : D.ct σ H) : tCont D σ H := q
theorem e_drop (q : te σ H fun _ H1 => D.nx σ H1) : tDrop te D σ H := q
theorem e_ret (q : te σ H D.rt) : tRet te D σ H := q
theorem e_retN (q : D.rt .non H) : tRetN D σ H := q
theorem e_ifS (q : tt σ H fun b H1 => if b = true then t D σ H1 else u D σ H1) : tIfS tt t u D σ H := q
theorem e_asg {g : TG} (q : te σ H fun x H1 => g x σ H1 D.nx) : tAsg te g D σ H := q
theorem e_name {i : Nat} {Q : L2.St → Hp → Prop} (q : Q (σ.set i (some v)) H) : gName i v σ H Q := q
theorem e_sub {to ti : TE} {st : TSet} {Q : L2.St → Hp → Prop} (q : to σ H fun o H1 => ti σ H1 fun i H2 => st o i v H2 fun H3 => Q σ H3) : gSub to ti st v σ H Q := q
theorem e_aug {i : Nat} {ti : TIp} (h : σ[i]? = some (some x)) (q : te σ H fun y H1 => ti x y H1 fun z H2 => D.nx (σ.set i (some z)) H2) : tAug i te ti D σ H := ⟨x, h, q⟩
theorem e_nil {Q : List V → Hp → Prop} (q : Q [] H) : tNil σ H Q := q
theorem e_cons {Q : List V → Hp → Prop} (q : ta σ H fun x H1 => as σ H1 fun xs H2 => Q (x :: xs) H2) : tCons ta as σ H Q := q
theorem e_call {sp : Sp} {dvs : List V} {E : XK} (q : as σ H fun vs H1 => sp (vs ++ dvs) H1 Q E) : tCall sp dvs E as σ H Q := q
theorem e_CB {r : List V → Hp → VK → Prop} (q : as σ H fun vs H1 => r vs H1 Q) : tCB r as σ H Q := q
theorem e_tup (q : as σ H fun xs H1 => xs.length ≤ sizeLine ∧ ∀ p, H1 p = none → Q (.ref p) (upd H1 p (.tup xs))) : tTup as σ H Q := q
theorem e_lst (q : as σ H fun xs H1 => xs.length ≤ sizeLine ∧ ∀ p, H1 p = none → Q (.ref p) (upd H1 p (.lst xs))) : tLst as σ H Q := q
theorem e_sl {r : V → Option Int → Option Int → Hp → VK → Prop} {tl th : TO} (q : te σ H fun x H1 => tl σ H1 fun l H2 => th σ H2 fun u H3 => r x l u H3 Q) : tSl r te tl th σ H Q := q
theorem e_noP {Q : Option Int → Hp → Prop} (q : Q none H) : tNoPart σ H Q := q
theorem e_part {Q : Option Int → Hp → Prop} (q : te σ H fun x H1 => ∃ i, x = .int i ∧ Q (some i) H1) : tPart te σ H Q := q
theorem e_exI {i : Int} {P : Int → Prop} (q : P i) : ∃ k, V.int i = .int k ∧ P k := ⟨i, rfl, q⟩
theorem e_bm {T : String} {r : V → List V → Hp → VK → Prop} {to : TE} (q : to σ H fun x H1 => tyV K T x H1 ∧ as σ H1 fun xs H2 => r x xs H2 Q) : tBM K T r to as σ H Q := q
theorem e_for {wi : TI} {g : TG} (q : wi σ H fun J H1 => ForB J g t D σ H1) : tFor wi g t D σ H := q
theorem e_lc {wi : TI} {g : TG} {vs : List Nat} (q : wi σ H fun J H1 => ∀ D, H1 D = none → LcB J g tt te vs σ D H1 Q) : tLc wi g tt te vs σ H Q := q
theorem e_exS {i : Str} {P : Str → Prop} (q : P i) : ∃ k, V.str i = .str k ∧ P k := ⟨i, rfl, q⟩
theorem e_exR {a : Addr} {xs : List V} {P : Addr → Prop} (h : SqL K H a xs) (q : P a) : ∃ k, V.ref a = .ref k ∧ (∃ xs, SqL K H k xs) ∧ P k := ⟨a, rfl, ⟨xs, h⟩, q⟩
theorem e_exRT {a : Addr} {xs : List V} {P : Addr → Prop} (h : SqT K H a xs) (q : P a) : ∃ k, V.ref a = .ref k ∧ (∃ xs, SqT K H k xs) ∧ P k := ⟨a, rfl, ⟨xs, h⟩, q⟩
theorem e_rng1 {n : Int} {P : Int → Prop} (h1 : -(2 ^ 62) ≤ n) (h2 : n < 2 ^ 62) (q : P n) : ∃ j : Int, [V.int n] = [.int j] ∧ -(2 ^ 62) ≤ j ∧ j < 2 ^ 62 ∧ P j := ⟨n, rfl, h1, h2, q⟩
theorem e_rng2 {m n : Int} {P : Int → Int → Prop} (h : -(2 ^ 62) ≤ m ∧ m < 2 ^ 62 ∧ -(2 ^ 62) ≤ n ∧ n < 2 ^ 62) (q : P m n) : ∃ i j : Int, [V.int m, V.int n] = [.int i, .int j] ∧ (-(2 ^ 62) ≤ i ∧ i < 2 ^ 62 ∧ -(2 ^ 62) ≤ j ∧ j < 2 ^ 62) ∧ P i j := ⟨m, n, rfl, h, q⟩
theorem e_m0 {r : V → List V → Hp → VK → Prop} {to : TE} (q : to σ H fun x H1 => (∃ a, x = .str a) ∧ r x [] H1 Q) : tM0 r to σ H Q := q
theorem e_m1 {r : V → List V → Hp → VK → Prop} {to : TE} (q : to σ H fun x H1 => (∃ a, x = .str a) ∧ te σ H1 fun y H2 => r x [y] H2 Q) : tM1 r to te σ H Q := q
theorem e_slS {z : Str} {lo hi : Option Int} (h : z.length ≤ sizeLine) (q : Q (.str (cutS z lo hi)) H) : rSlS (.str z) lo hi H Q := ⟨z, rfl, h, q⟩
theorem e_iList {R : It → Hp → Prop} {tl : TE} (q : tl σ H fun x H1 => ∃ a, x = .ref a ∧ (∃ xs, SqL K H1 a xs) ∧ R (Itl K a) H1) : iList K tl σ H R := q
theorem e_iTup {R : It → Hp → Prop} {tl : TE} (q : tl σ H fun x H1 => ∃ a, x = .ref a ∧ (∃ xs, SqT K H1 a xs) ∧ R (Itt K a) H1) : iTup K tl σ H R := q
theorem e_iStr {R : It → Hp → Prop} {tl : TE} (q : tl σ H fun v H1 => ∃ x, v = .str x ∧ R (Its x) H1) : iStr tl σ H R := q
theorem e_iRng1 {R : It → Hp → Prop} (q : as σ H fun vs H1 => ∃ j : Int, vs = [.int j] ∧ -(2 ^ 62) ≤ j ∧ j < 2 ^ 62 ∧ R (Itr 0 j.toNat) H1) : iRng1 as σ H R := q
theorem e_iRng2 {R : It → Hp → Prop} (q : as σ H fun vs H1 => ∃ i j : Int, vs = [.int i, .int j] ∧ (-(2 ^ 62) ≤ i ∧ i < 2 ^ 62 ∧ -(2 ^ 62) ≤ j ∧ j < 2 ^ 62) ∧ R (Itr i (j - i).toNat) H1) : iRng2 as σ H R := q
theorem e_ixL {p : Addr} {xs : List V} {i : Int} (h : SqL K H p xs) (ha : atI xs i = some v) (q : Q v H) : rIxL K (.ref p) (.int i) H Q := ⟨p, xs, i, v, rfl, rfl, h, ha, q⟩
theorem e_ixT {p : Addr} {xs : List V} {i : Int} (h : SqT K H p xs) (ha : atI xs i = some v) (q : Q v H) : rIxT K (.ref p) (.int i) H Q := ⟨p, xs, i, v, rfl, rfl, h, ha, q⟩
theorem e_ixS {z : Str} {i : Int} {c : Nat} (hz : z.length ≤ sizeLine) (ha : atI z.cps.toList i = some c) (q : Q (.str ⟨#[c]⟩) H) : rIxS (.str z) (.int i) H Q := ⟨z, i, c, rfl, rfl, hz, ha, q⟩
theorem e_len {p : Addr} {ys : List V} (h : SqL K H p ys) (q : Q (.int ys.length) H) : ∃ p' ys', [V.ref p] = [V.ref p'] ∧ (SqL K H p' ys' ∨ SqT K H p' ys') ∧ Q (.int (ys'.length : Nat)) H := ⟨p, ys, rfl, .inl h, q⟩
theorem e_lenT {p : Addr} {ys : List V} (h : SqT K H p ys) (q : Q (.int ys.length) H) : ∃ p' ys', [V.ref p] = [V.ref p'] ∧ (SqL K H p' ys' ∨ SqT K H p' ys') ∧ Q (.int (ys'.length : Nat)) H := ⟨p, ys, rfl, .inr h, q⟩
theorem e_lenS {z : Str} (h : z.length ≤ sizeLine) (q : Q (.int z.length) H) : ∃ z', [V.str z] = [V.str z'] ∧ z'.length ≤ sizeLine ∧ Q (.int (z'.length : Nat)) H := ⟨z, rfl, h, q⟩
theorem e_int1 {i : Int} (q : Q (.int i) H) : (∃ i', [V.int i] = [V.int i'] ∧ Q (.int i') H) ∨ ∃ k, [V.int i] = [V.bl k] ∧ Q (.int (if k = true then 1 else 0)) H := .inl ⟨i, rfl, q⟩
theorem e_setL {p : Addr} {xs : List V} {k : Int} {j : Nat} {Q : Hp → Prop} (h : H p = some (.lst xs)) (hj : ixN xs.length k = some j) (q : Q (upd H p (.lst (xs.set j v)))) : rSetL (.ref p) (.int k) v H Q := ⟨p, xs, k, j, rfl, rfl, h, hj, q⟩
theorem e_cut {Mid : L2.St → Hp → Prop} (h1 : t { D with nx := Mid } σ H) (h2 : ∀ σ' H', Mid σ' H' → u D σ' H') : C8.tCut t u D σ H := ⟨Mid, h1, h2⟩
/-- a test that is known, or open -/
theorem i_T {A B : Prop} (h : A) : if true = true then A else B := by rw [if_pos rfl]; exact h
theorem i_F {A B : Prop} (h : B) : if false = true then A else B := by rw [if_neg Bool.false_ne_true]; exact h
theorem i_d {p : Prop} [Decidable p] {A B : Prop} (h1 : p → A) (h2 : ¬ p → B) : if decide p = true then A else B := by
  by_cases h : p
  · rw [decide_eq_true h]; exact i_T (h1 h)
  · rw [decide_eq_false h]; exact i_F (h2 h)
theorem i_nd {p : Prop} [Decidable p] {A B : Prop} (h1 : ¬ p → A) (h2 : p → B) : if (!decide p) = true then A else B := by
  by_cases h : p
  · rw [decide_eq_true h]; exact i_F (h2 h)
  · rw [decide_eq_false h]; exact i_T (h1 h)
theorem i_b {b : Bool} {A B : Prop} (h1 : b = true → A) (h2 : b = false → B) : if b = true then A else B := by
  cases b
  · exact i_F (h2 rfl)
  · exact i_T (h1 rfl)
theorem i_nself {b : Bool} {A B : Prop} (h : B) : if (!(b == b)) = true then A else B := by
  rw [beq_self_eq_true]; exact i_F h
theorem i_self {α : Type} [DecidableEq α] {x : α} {A B : Prop} (h : A) : if decide (x = x) = true then A else B := by
  rw [decide_eq_true rfl]; exact i_T h
theorem i_neself {α : Type} [DecidableEq α] {x : α} {A B : Prop} (h : B) : if (!decide (x = x)) = true then A else B := by
  rw [decide_eq_true rfl]; exact i_F h
theorem i_nb {b : Bool} {A B : Prop} (h1 : b = false → A) (h2 : b = true → B) : if (!b) = true then A else B := by
  cases b
  · exact i_T (h1 rfl)
  · exact i_F (h2 rfl)
end

section
variable {K : PySem.W.Frag} {H : Hp} {Q : VK}
theorem isi_ty {x : V} {t n : String} {b : Bool} (ty : TyX K H x (.type t)) (e : PySem.W.kitOne K (.type t) (.type n) = some b) (q : Q (.bl b) H) : rIsi K [x, .ty n] H Q := ⟨x, .ty n, _, _, b, rfl, .ty n, ty, e, q⟩
theorem isi_bb {x : Bool} (q : Q (.bl true) H) : rIsi K [.bl x, .ty "bool"] H Q := isi_ty (.base (.bl x)) (kit_ty (by decide +kernel)) q
theorem isi_ib {x : Int} (q : Q (.bl false) H) : rIsi K [.int x, .ty "bool"] H Q := isi_ty (.base (.int x)) (kit_ty (by decide +kernel)) q
theorem isi_bi {x : Bool} (q : Q (.bl true) H) : rIsi K [.bl x, .ty "int"] H Q := isi_ty (.base (.bl x)) (kit_ty (by decide +kernel)) q
theorem isi_ii {x : Int} (q : Q (.bl true) H) : rIsi K [.int x, .ty "int"] H Q := isi_ty (.base (.int x)) (kit_ty (by decide +kernel)) q
theorem isi_si {x : Str} (q : Q (.bl false) H) : rIsi K [.str x, .ty "int"] H Q := isi_ty (.base (.str x)) (kit_ty (by decide +kernel)) q
theorem isi_ni (q : Q (.bl false) H) : rIsi K [.non, .ty "int"] H Q := isi_ty (.base .non) (kit_ty (by decide +kernel)) q
theorem isi_tt {p : Addr} {xs : List V} (h : H p = some (.tup xs)) (q : Q (.bl true) H) : rIsi K [.ref p, .ty "tuple"] H Q := isi_ty (.base (.tup h)) (kit_ty (by decide +kernel)) q
theorem isi_ll {p : Addr} {xs : List V} (h : H p = some (.lst xs)) (q : Q (.bl true) H) : rIsi K [.ref p, .ty "list"] H Q := isi_ty (.base (.lst h)) (kit_ty (by decide +kernel)) q
theorem isi_lt {p : Addr} {xs : List V} (h : H p = some (.lst xs)) (q : Q (.bl false) H) : rIsi K [.ref p, .ty "tuple"] H Q := isi_ty (.base (.lst h)) (kit_ty (by decide +kernel)) q
end
/-! ### defs that are called by their names -/
structure Cal (P : Program) (w : World) (K : PySem.W.Frag) (mg : Str → Option Value) (base : Heap) (k : Nat) (x : Str) (sp : Sp) : Prop where
  ex : ∃ (f : Addr) (fd : FuncData) (ps : List Str), FnOk P w K mg base CX0 k f fd ps sp ∧ mg x = some (.ref f) ∧ PySem.W.keepIn K (.ref f) = true ∧ Binds K fd ps []
theorem pe_c {X : Cx} {k j : Nat} {x : Str} {sp : Sp} {p pos : Pos} {e : Expr} {es : List Expr} {t : TA} (c : Cal X.prog X.w X.K X.mg X.base k x sp) (hr : Room j X.A) (hk : k ≤ j) (hg : Gl X x) (ha : PA X (e :: es) t)
    (hdb : (x == ("__debug__" : Str)) = false := by decide) 
    (he : starEach (e :: es) X.env = (false, eval e X.env) :: starEach es X.env := by rfl) 
    (hpl : (backTo pos (starEach es X.env)).any (·.1) = false := by rfl) :
    PE X (.Call (.Name x p) (e :: es) [] pos) (tCall sp [] E0 t) := by
  obtain ⟨f, fd, ps, F, hm, kp, b⟩ := c.ex
  exact pe_call F (hr.mono hk) hg hm kp b .nil pass0 ha hdb he hpl
theorem pe_c0 {X : Cx} {k j : Nat} {x : Str} {sp : Sp} {p pos : Pos} (c : Cal X.prog X.w X.K X.mg X.base k x sp) (hr : Room j X.A) (hk : k ≤ j) (hg : Gl X x)
    (hdb : (x == ("__debug__" : Str)) = false := by decide) :
    PE X (.Call (.Name x p) [] [] pos) (tCall sp [] E0 tNil) := by
  obtain ⟨f, fd, ps, F, hm, kp, b⟩ := c.ex
  exact pe_call0 F (hr.mono hk) hg hm kp b .nil pass0 hdb

/-- promises by arity -/
abbrev sp0 (R : Hp → VK → Prop) : Sp := fun vs H Q _ => vs = [] ∧ R H Q
abbrev sp1 (R : V → Hp → VK → Prop) : Sp := fun vs H Q _ => ∃ a, vs = [a] ∧ R a H Q
abbrev sp2 (R : V → V → Hp → VK → Prop) : Sp := fun vs H Q _ => ∃ a b, vs = [a, b] ∧ R a b H Q
abbrev sp3 (R : V → V → V → Hp → VK → Prop) : Sp := fun vs H Q _ => ∃ a b c, vs = [a, b, c] ∧ R a b c H Q
abbrev sp4 (R : V → V → V → V → Hp → VK → Prop) : Sp := fun vs H Q _ => ∃ a b c d, vs = [a, b, c, d] ∧ R a b c d H Q


theorem sz_of {n : Nat} (h : n ≤ 1000000) : n ≤ sizeLine := Nat.le_trans h (by decide)
/-! ### heaps: all but one address as it was -/
def Kp (st : Addr) (H H' : Hp) : Prop := ∀ b o, b ≠ st → H b = some o → H' b = some o
theorem Kp.refl (st : Addr) (H : Hp) : Kp st H H := fun _ _ _ h => h
theorem Kp.trans {st : Addr} {H H1 H2 : Hp} (a : Kp st H H1) (b : Kp st H1 H2) : Kp st H H2 := fun c o n h => b c o n (a c o n h)
theorem Kp.of {st : Addr} {H H' : Hp} (a : Same H H') : Kp st H H' := fun c o _ h => a c o h
theorem same_new {H : Hp} {p : Addr} {o : HO} (h : H p = none) : Same H (upd H p o) := fun b x e => by
  rw [upd_ne (ne_of_none e h)]
  exact e
theorem Kp.new {st p : Addr} {H : Hp} {o : HO} (h : H p = none) : Kp st H (upd H p o) := Kp.of (same_new h)
/-- an object that was not there at first may change -/
theorem Kp.mut {st p : Addr} {H H' : Hp} {o : HO} (a : Kp st H H') (h : H p = none) : Kp st H (upd H' p o) := fun b x n e => by
  rw [upd_ne (ne_of_none e h)]
  exact a b x n e
theorem Kp.put {st : Addr} {H H' : Hp} {o : HO} (a : Kp st H H') : Kp st H (upd H' st o) := fun b x n e => by
  rw [upd_ne n]
  exact a b x n e
theorem Same.mut {p : Addr} {H H' : Hp} {o : HO} (a : Same H H') (h : H p = none) : Same H (upd H' p o) := fun b x e => by
  rw [upd_ne (ne_of_none e h)]
  exact a b x e
theorem Kp.free {st p : Addr} {H H' : Hp} (a : Kp st H H') (hs : ∃ o, H' st = some o) (h : H' p = none) : H p = none := by
  cases q : H p with
  | none => rfl
  | some o =>
    by_cases e : p = st
    · obtain ⟨o', h'⟩ := hs
      rw [e, h'] at h
      cases h
    · rw [a p o e q] at h
      cases h

/-- the state of the draws and the script: two ints at st, the script at sc whatever is drawn -/
structure Dr (K : PySem.W.Frag) (st sc : Addr) (ns : List Int) (H : Hp) : Prop where
  s : ∃ a b : Int, 0 ≤ a ∧ 0 ≤ b ∧ H st = some (.lst [.int a, .int b])
  sc : ∀ H', Kp st H H' → SqL K H' sc (ns.map V.int)
  len : ns.length ≤ 63
theorem Dr.kp {K : PySem.W.Frag} {st sc : Addr} {ns : List Int} {H H' : Hp} (d : Dr K st sc ns H) (k : Kp st H H') (s : ∃ a b : Int, 0 ≤ a ∧ 0 ≤ b ∧ H' st = some (.lst [.int a, .int b])) : Dr K st sc ns H' :=
  ⟨s, fun H2 k2 => d.sc H2 (k.trans k2), d.len⟩
theorem Dr.same {K : PySem.W.Frag} {st sc : Addr} {ns : List Int} {H H' : Hp} (d : Dr K st sc ns H) (k : Same H H') : Dr K st sc ns H' := by
  obtain ⟨a, b, h1, h2, h3⟩ := d.s
  exact d.kp (Kp.of k) ⟨a, b, h1, h2, k _ _ h3⟩
theorem Dr.seq {K : PySem.W.Frag} {st sc : Addr} {ns : List Int} {H : Hp} (d : Dr K st sc ns H) : SqL K H sc (ns.map V.int) := d.sc H (Kp.refl st H)
theorem sq_keep {K : PySem.W.Frag} {H H' : Hp} {a p : Addr} {xs : List V} (h : SqL K H a xs) (hp : H p = none) (k : Kp p H H') : SqL K H' a xs := by
  rcases h with (h | ⟨c9, h⟩) | h
  · exact .inl (.inl (k _ _ (ne_of_none h hp) h))
  · exact .inl (.inr ⟨c9, k _ _ (ne_of_none h hp) h⟩)
  · exact .inr h
theorem Dr.start {K : PySem.W.Frag} {st sc : Addr} {ns : List Int} {H : Hp} (h : SqL K H sc (ns.map V.int)) (hp : H st = none) (hl : ns.length ≤ 63) : Dr K st sc ns (upd H st (.lst [.int 0, .int 0])) :=
  ⟨⟨0, 0, by decide, by decide, upd_same⟩, fun H' k => sq_keep h hp fun b o n e => k b o n (by rw [upd_ne n]; exact e), hl⟩
theorem Dr.ne {K : PySem.W.Frag} {st sc p : Addr} {ns : List Int} {H : Hp} (d : Dr K st sc ns H) (h : H p = none) : p ≠ st := by
  obtain ⟨a, b, _, _, h3⟩ := d.s
  intro e
  rw [e, h3] at h
  cases h
theorem pick_int {l : List Int} {d : Int} (h0 : 0 ≤ d) (h1 : d < l.length) : ∃ n, n ∈ l ∧ atI (l.map V.int) d = some (.int n) := by
  have h : d.toNat < l.length := by omega
  exact ⟨l[d.toNat], List.getElem_mem h, at_of (j := d.toNat) (by omega) (by rw [List.getElem?_map, List.getElem?_eq_getElem h]; rfl)⟩
theorem pick_nat {l : List Nat} {d : Int} (h0 : 0 ≤ d) (h1 : d < l.length) : ∃ n, n ∈ l ∧ atI l d = some n := by
  have h : d.toNat < l.length := by omega
  obtain ⟨j, hj⟩ : ∃ j : Nat, d = (j : Int) := ⟨d.toNat, by omega⟩
  have h2 : j < l.length := by omega
  subst hj
  exact ⟨l[j], List.getElem_mem h2, atI_nat (List.getElem?_eq_getElem h2)⟩
theorem at_last {ns : List Int} (h : 0 < ns.length) : ∃ x, atI (ns.map V.int) (-1) = some (.int x) := by
  have e : ns = ns.dropLast ++ [ns.getLast (by intro q; rw [q] at h; cases h)] := (List.dropLast_concat_getLast _).symm
  rw [e, List.map_append]
  exact ⟨_, atI_last _ _⟩
theorem pick_sign {z : Str} {d : Int} (h0 : 0 ≤ d) (h1 : d < (z.length : Int)) : ∃ c, c ∈ z.cps.toList ∧ atI z.cps.toList d = some c :=
  pick_nat h0 (by simpa [Str.length] using h1)
theorem len_app (a b : Str) : (a ++ b).length = a.length + b.length := PySem.Str.length_append a b
/-- what a call behind which only the draws' state has changed hands on -/
def RDraw (K : PySem.W.Frag) (st sc : Addr) (ns : List Int) (H : Hp) (G : Hp → Prop) : Prop := Dr K st sc ns H ∧ ∀ H', Kp st H H' → Dr K st sc ns H' → G H'
theorem Dr.mut {K : PySem.W.Frag} {st sc p : Addr} {ns : List Int} {H0 H1 : Hp} {o : HO} (d0 : Dr K st sc ns H0) (d : Dr K st sc ns H1) (hp : H0 p = none) (k : Kp st H0 H1) : Dr K st sc ns (upd H1 p o) := by
  obtain ⟨a, b, h1, h2, h3⟩ := d.s
  exact d0.kp (k.mut hp) ⟨a, b, h1, h2, by rw [upd_ne (d0.ne hp).symm]; exact h3⟩
section
variable {K : PySem.W.Frag} {g : TG} {σ : L2.St} {te : TE} {vs : List Nat} {Q : VK} {Da st sc : Addr} {ns : List Int} {H0 : Hp}
/-- [e for k in range(..)], e with draws -/
theorem lc_dr {lo : Int} {n : Nat} (d0 : Dr K st sc ns H0) (hD : H0 Da = none) (hn : n ≤ 1000000) (Pe : V → Prop)
    (hs : ∀ (i : Nat) (H2 : Hp) (C : VK) (E : Hp → Prop), i < n → Kp st H0 H2 → Dr K st sc ns H2 → (∀ y H3, Kp st H2 H3 → Dr K st sc ns H3 → Pe y → C y H3) →
      g (.int (lo + i)) (wipe σ vs) H2 fun σ2 H2 => wipe σ2 vs = wipe σ vs ∧ tYes σ2 H2 fun b H3 => if b = true then te σ2 H3 C else E H3)
    (hd : ∀ (H : Hp) (xs : List V), Kp st H0 H → Dr K st sc ns H → H Da = some (.lst xs) → xs.length = n → (∀ x ∈ xs, Pe x) → Q (.ref Da) H) : LcB (Itr lo n) g tYes te vs σ Da H0 Q := by
  have nD := d0.ne hD
  refine lc_rng (fun i H2 => Kp st H0 H2 ∧ Dr K st sc ns H2 ∧ ∃ xs : List V, H2 Da = some (.lst xs) ∧ xs.length = i ∧ ∀ x ∈ xs, Pe x) ⟨Kp.new hD, d0.same (same_new hD), [], upd_same, rfl, fun _ hy => by cases hy⟩ (fun i H2 hi p => ?_) (fun H2 p => ?_)
  · obtain ⟨k4, d4, xs, e4, l4, o4⟩ := p
    refine hs i H2 _ _ hi k4 d4 fun y H3 k5 d5 hy => ?_
    refine ⟨xs, k5 _ _ nD e4, Nat.lt_of_le_of_lt (Nat.le_of_lt (by omega : xs.length < 1000001)) (by decide), (k4.trans k5).mut hD, Dr.mut d0 d5 hD (k4.trans k5), xs ++ [y], upd_same, by simp [l4], fun z hz => ?_⟩
    rcases List.mem_append.mp hz with h | h
    · exact o4 z h
    · rw [List.mem_singleton.mp h]; exact hy
  · obtain ⟨k4, d4, xs, e4, l4, o4⟩ := p
    exact hd H2 xs k4 d4 e4 l4 o4
/-- [e for k in range(..)], e a function of k -/
theorem lc_map_rng {lo : Int} {n : Nat} (hD : H0 Da = none) (hn : n ≤ 1000000) (f : Nat → V)
    (hs : ∀ (i : Nat) (H2 : Hp) (C : VK) (E : Hp → Prop), i < n → Same H0 H2 → (∀ H3, Same H2 H3 → C (f i) H3) →
      g (.int (lo + i)) (wipe σ vs) H2 fun σ2 H2 => wipe σ2 vs = wipe σ vs ∧ tYes σ2 H2 fun b H3 => if b = true then te σ2 H3 C else E H3)
    (hd : ∀ (H : Hp), Same H0 H → H Da = some (.lst ((List.range n).map f)) → Q (.ref Da) H) : LcB (Itr lo n) g tYes te vs σ Da H0 Q := by
  refine lc_rng (fun i H2 => Same H0 H2 ∧ H2 Da = some (.lst ((List.range i).map f))) ⟨same_new hD, upd_same⟩ (fun i H2 hi p => ?_) (fun H2 p => hd H2 p.1 p.2)
  obtain ⟨k4, e4⟩ := p
  refine hs i H2 _ _ hi k4 fun H3 k5 => ?_
  refine ⟨_, k5 _ _ e4, Nat.lt_of_le_of_lt (by simp; omega : _ ≤ 1000000) (by decide), Same.mut (k4.trans k5) hD, ?_⟩
  rw [upd_same, List.range_succ, List.map_append]
  rfl
/-- [e for x in xs], a list, e a function of x -/
theorem lc_map_lst {a : Addr} {xs : List V} (hS : SqL K H0 a xs) (hD : H0 Da = none) (hn : xs.length ≤ 1000000) (f : V → V)
    (hs : ∀ (x : V) (H2 : Hp) (C : VK) (E : Hp → Prop), x ∈ xs → Same H0 H2 → (∀ H3, Same H2 H3 → C (f x) H3) →
      g x (wipe σ vs) H2 fun σ2 H2 => wipe σ2 vs = wipe σ vs ∧ tYes σ2 H2 fun b H3 => if b = true then te σ2 H3 C else E H3)
    (hd : ∀ (H : Hp), Same H0 H → H Da = some (.lst (xs.map f)) → Q (.ref Da) H) : LcB (Itl K a) g tYes te vs σ Da H0 Q := by
  refine lc_lst (xs := xs) (fun pre H2 => Same H0 H2 ∧ H2 Da = some (.lst (pre.map f)) ∧ pre.length ≤ xs.length) ⟨same_new hD, upd_same, Nat.zero_le _⟩ (fun pre H2 p => p.1.seq hS) (fun pre x post H2 e p => ?_) (fun H2 p => hd H2 p.1 p.2.1)
  obtain ⟨k4, e4, l4⟩ := p
  refine hs x H2 _ _ (by rw [e]; simp) k4 fun H3 k5 => ?_
  refine ⟨_, k5 _ _ e4, Nat.lt_of_le_of_lt (by simp; omega : _ ≤ 1000000) (by decide), Same.mut (k4.trans k5) hD, ?_, by rw [e]; simp⟩
  rw [upd_same, List.map_append]
  rfl
end
/-- a draw: any number below the size -/
def spDraw (K : PySem.W.Frag) : Sp := sp3 fun a b c H Q => ∃ (st sc : Addr) (ns : List Int) (n : Int), a = .ref st ∧ b = .ref sc ∧ c = .int n ∧ Dr K st sc ns H ∧ 0 < n ∧ n < 2 ^ 60 ∧
  ∀ (d : Int) (H' : Hp), 0 ≤ d → d < n → Kp st H H' → Dr K st sc ns H' → Q (.int d) H'

abbrev FnP (K : PySem.W.Frag) (x : Str) (st : Stmt) (f : Addr) (fd : FuncData) : Prop :=
  FunD K x x (defArgs st) (defBody st) (defScope st) [] [] f fd
end Vf

namespace PySem
open Sem (wp)
theorem meets_enumerate_newTup (l : Addr) (row : Array Value) (ob : Obj) (cap : Nat) :
    Meets (Builtin.«enumerate.__new__» ⟨[.type "enumerate", .ref l], []⟩) (fun _ R s => (s.heap.get? l = some ob ∧ ob.cls = .type "tuple" ∧ ob.data = .seq row cap) ∧
      R (.ok (.ret (.ref (s.heap.push { cls := .type "tuple_iterator", data := .fields #[.ref l, .int 0 0] }).objs.size)))
        { s with heap := (s.heap.push { cls := .type "tuple_iterator", data := .fields #[.ref l, .int 0 0] }).push { cls := .type "enumerate", data := .fields #[.none, .bool false, .ref s.heap.objs.size, rawInt 0, .none, .none] } }) :=
  .of_wp fun prg w A R s h => by
    obtain ⟨hp, g, d, tk, os⟩ := s; obtain ⟨⟨hl9, wc, wd⟩, h⟩ := h
    have hsub := sub_enumerate
    have isT : Heap.IsTuple (Shared.heap ⟨hp, g, d, tk, os⟩) l row := ⟨_, hl9, wc, cap, wd⟩
    have q1 : ∀ {A' : Around} {E : Value → Shared → Prop} {Q : Value → Shared → Prop}, Q (.ref hp.objs.size) ⟨hp.push { cls := .type "tuple_iterator", data := .fields #[.ref l, .int 0 0] }, g, d, tk, os⟩ → wpAny (model prg w) A' (pyIter (.ref l)) Q E ⟨hp, g, d, tk, os⟩ :=
      fun q => wpAny_pyIter_tuple isT q
    wp_walk using q1
    refine wpAny_stack_any fun here => wpAny_pure ?_
    split
    · rename_i cls9 _ _ _ _ _
      cases (cls9 == Value.type "enumerate")
      · wp_walk using q1
        exact ⟨_, rfl, h⟩
      · wp_walk using q1
        exact ⟨_, rfl, h⟩
    · wp_walk using q1
      exact ⟨_, rfl, h⟩
section
variable {prg : Program} {w : World} {A : Around} {E : Value → Shared → Prop} {s : Shared}
/-- the object that enumerate makes, and the turning over a tuple -/
abbrev enOf (it : Addr) : Obj := { data := .fields #[.none, .bool false, .ref it, rawInt 0, .none, .none], cls := .type "enumerate" }
abbrev tiOf (l : Addr) : Obj := { data := .fields #[.ref l, .int 0 0], cls := .type "tuple_iterator" }
theorem call_enumerate_tup {l : Addr} {row : Array Value} {Q : Value → Shared → Prop} (isT : s.heap.IsTuple l row)
    (h : ∀ h', IsEnum h' (s.heap.objs.size + 1) s.heap.objs.size 0 .none → h'.IsTupleIter s.heap.objs.size l 0 → h'.objs.size = s.heap.objs.size + 2 →
      (∀ bb ob, s.heap.get? bb = some ob → h'.get? bb = some ob) → Q (.ref (s.heap.objs.size + 1)) { s with heap := h' }) :
    wpAny (model prg w) A
      (call (.type "enumerate") [.ref l]) Q E s := by
  obtain ⟨ob, hl9, wc, cap, wd⟩ := isT
  refine callType_new F.called_enumerate (by decide) (F.typeCall_enumerate_1 _)
    (F.newCall_enumerate_1 _) (fun it => F.args_object_init_2 it _) F.entry_enumerate_new (meets_enumerate_newTup l row ob cap) ⟨⟨hl9, wc, wd⟩, ?_⟩
  have szz : (s.heap.push (tiOf l)).objs.size = s.heap.objs.size + 1 := Heap.size_push ..
  show _ ∧ _
  rw [szz]
  have qe : IsEnum ((s.heap.push (tiOf l)).push
      (enOf s.heap.objs.size)) (s.heap.objs.size + 1) s.heap.objs.size 0 .none := by
    have := Heap.get?_push_size (s.heap.push (tiOf l))
      (o := enOf s.heap.objs.size) rfl
    rw [szz] at this; exact this
  refine ⟨⟨_, qe, rfl⟩, h _ qe ⟨_, Heap.get?_push_of_some _ (Heap.get?_push_size _ rfl), rfl, rfl⟩ (by rw [Heap.size_push, szz]) fun bb ob x => Heap.get?_push_of_some _ (Heap.get?_push_of_some _ x)⟩
theorem enumT_end {e it t : Addr} {i : Nat} {row : Array Value} {prev : Value} {Q : Option Value → Shared → Prop} (hh : A.handled = none)
    (qe : IsEnum s.heap e it i prev) (qi : s.heap.IsTupleIter it t i) (hl9 : s.heap.IsTuple t row) (ne2 : t ≠ it) (atx : row[i]? = none)
    (hQ : ∀ h', Heap.ExtBut it s.heap h' → Q none { s with heap := h' }) : wpAny (model prg w) A (pyNext (.ref e)) Q E s := by
  have ty1 : s.TypeIs (.ref e) "enumerate" := ⟨_, qe, rfl⟩
  unfold pyNext
  refine wpAny_bind (wpAny_attempt (wpAny_callSpecial?_slot (name := Str.ofString "__next__") ty1 F.slot_enumerate_next
    (wpAny_call_entry F.slot_enumerate_next ty1 F.entry_enumerate_next ?_ (F.args_enumerate_next_1 _))))
  show wpAny (model prg w) A.in1
    (field (.ref e) 2 >>= _) _ _ s
  refine wpAny_bind (wpAny_field qe rfl (x := .ref it) rfl ?_)
  refine wpAny_bind (wpAny_nextOf_tuple_end hh qi hl9 atx fun h' x he' hx' => ?_)
  obtain ⟨ob, wo, wc⟩ := hx'
  refine wpAny_bind (wpAny_isInstance (T := "StopIteration") (b := true) ⟨ob, wo, wc⟩ isSubtype_stop ?_)
  exact wpAny_pure (hQ _ he')
end
end PySem
namespace Vf
open PySem L2 PySem.Spec PyProof.Rows
/-- enumerate(t), t a tuple -/
def IteT (K : PySem.W.Frag) (a : Addr) : It :=
  ⟨fun i H => ∃ (xs : List V) (x : V), SqT K H a xs ∧ xs[i]? = some x, fun i H v H' => ∃ T x, v = .ref T ∧ H T = none ∧ H' = upd H T (.tup [.int (i : Nat), x]) ∧ ∀ xs, SqT K H a xs → xs[i]? = some x, fun i H => ∃ xs : List V, SqT K H a xs ∧ xs.length ≤ i⟩
theorem turn_enumT {P : Program} {w : World} {K : PySem.W.Frag} {elts : List Expr} {kk : Nat} {tpos : Pos} (a e it : Addr) :
    Turn P w K (.Tuple elts kk tpos) (IteT K a) [e, it] e (fun i h => (∃ prev, IsEnum h e it ((i : Nat) : Int) prev) ∧ h.IsTupleIter it a i ∧ e ≠ it) where
  mem := by simp
  obj := fun i h here bb mb => by
    obtain ⟨⟨prev, qe⟩, ⟨ob, wo, wc, wd⟩, _⟩ := here
    have e' : bb = e ∨ bb = it := by simpa using mb
    rcases e' with z | z
    · rw [z]; exact ⟨_, qe, fun v q => nomatch q⟩
    · rw [z]; exact ⟨ob, wo, fun v q => by rw [wd] at q; cases q⟩
  keep := fun i h h' here k => let ⟨⟨prev, qe⟩, hi9, qn⟩ := here; ⟨⟨prev, k e (by simp) _ qe⟩, hi9.at fun ob q => k it (by simp) ob q, qn⟩
  item := by
    intro X hP hw hK wc i pins s σ H E I fp here got
    subst hP hw hK
    obtain ⟨⟨prev, qe⟩, qi, qn⟩ := here
    obtain ⟨xs, x, wq, atx⟩ := got
    obtain ⟨cells, rds, p, szz⟩ := I.tuple wq
    obtain ⟨u, mu, rdu⟩ := rds.get atx
    have le1 : e < s.heap.objs.size := Heap.lt_size qe
    have le2 : it < s.heap.objs.size := by obtain ⟨_, q, _⟩ := qi; exact Heap.lt_size q
    have ne1 : a ≠ e := by
      intro z
      obtain ⟨ob, wo, hc2, _⟩ := p
      rw [z, qe] at wo
      cases wo
      injection hc2 with q
      exact absurd q (by decide)
    have ne2 : a ≠ it := by
      intro z
      obtain ⟨ob, wo, hc2, _⟩ := p
      obtain ⟨o2, ho2, hc3, _⟩ := qi
      rw [z, ho2] at wo
      cases wo
      rw [hc3] at hc2
      injection hc2 with q
      exact absurd q (by decide)
    have hlt : i < cells.toArray.size := by
      have := (List.getElem?_eq_some_iff.mp mu).1
      simpa using this
    refine wpAny_pyNext_enum_itemD (Draws.tuple (A := X.A.in1) (show X.A.in1.handled = none from I.ok.hd wc) it a ne2 cells.toArray) qe ⟨qi, p⟩ hlt qn (by simp [qn, Ne.symm ne1]) fun x' h' tk hP wo hst' ty1 hsz keep1 => ?_
    have ex : x' = u := by
      have q1 : cells[i]? = some x' := by simpa using hP
      exact Option.some.inj (q1.symm.trans mu)
    subst ex
    refine ⟨_, rfl, wpAny_letOwnedTupleGo_enum (s := { s with heap := h', toks := tk + 1 }) wo fun h'' he' only1 => ?_⟩
    have ty2 : h''.get? s.heap.objs.size = some { cls := .type "tuple", data := .seq #[.int i tk, x'] } := (only1.2 _ (Nat.ne_of_gt le1)).trans ty1
    have fresh1 : ObjOk X.prog X.w (upd H s.heap.objs.size (.tup [.int (i : Nat), x])) h'' s.heap.objs.size (.tup [.int (i : Nat), x]) :=
      ⟨by show 2 ≤ sizeLine; decide, [.int i tk, x'], .cons ⟨_, rfl⟩ (.cons rdu .nil), ⟨_, ty2, rfl, _, rfl⟩⟩
    have J1 : Inv X pins σ (upd H s.heap.objs.size (.tup [.int (i : Nat), x])) { s with heap := h'', toks := tk + 1 } :=
      I.turnedNew (ch := [e, it]) (fun bb ob mb q => (only1.2 bb (fun z => mb (by simp [z]))).trans (keep1 bb ob (fun z => mb (by simp [z])) (fun z => mb (by simp [z])) q)) fp (Nat.le_refl _) fresh1
    refine ⟨.ref s.heap.objs.size, _, J1, rfl, ⟨_, x, rfl, I.hok.fresh (Nat.le_refl _), rfl, fun ys hy => by rw [I.tuple_inj hy wq]; exact atx⟩, ⟨⟨x', ?_⟩, hst'.1.at fun ob q => (only1.2 it (Ne.symm qn)).trans q, qn⟩, fun bb mb => ?_⟩
    · have up1 : ((i + 1 : Nat) : Int) = (i : Int) + 1 := by
        omega
      rw [up1]; exact he'
    · have below : bb < s.heap.objs.size := by
        have two : bb = e ∨ bb = it := by simpa using mb
        rcases two with rfl | rfl
        · exact le1
        · exact le2
      rw [upd_ne (Nat.ne_of_lt below)]
      exact (fp bb mb).1
  done := by
    intro X hP hw hK wc i pins s σ H E I fp here got
    subst hP hw hK
    obtain ⟨⟨prev, qe⟩, qi, qn⟩ := here
    obtain ⟨xs, wq, atx⟩ := got
    obtain ⟨cells, rds, p, szz⟩ := I.tuple wq
    obtain ⟨f0, f1, f2, f3, f4, f5⟩ := fp it (by simp)
    have hl := rds.length
    have ne2 : a ≠ it := by
      intro z
      obtain ⟨ob, wo, hc2, _⟩ := p
      obtain ⟨o2, ho2, hc3, _⟩ := qi
      rw [z, ho2] at wo
      cases wo
      rw [hc3] at hc2
      injection hc2 with q
      exact absurd q (by decide)
    refine enumT_end (I.ok.hd wc) qe qi p ne2 (by simp; omega) fun h' eb => ⟨rfl, I.turned (t' := s.toks) (fun bb ob mb q => eb bb ob mb q) f0 f1 f3 f4 f5⟩
  self := fun A i s Q E here h => let ⟨⟨_, qe⟩, _⟩ := here; wpAny_pyIter_enum qe h
def iEnumT (K : PySem.W.Frag) (ta : TA) : TI := fun σ H R => ta σ H fun vs H1 => ∃ a xs, vs = [.ref a] ∧ SqT K H1 a xs ∧ R (IteT K a) H1
theorem pi_enumT {X : Cx} {e : Expr} {ta : TA} {p pos tpos : Pos} {elts : List Expr} {kk : Nat} (got : Gl X "enumerate") (hm : X.mg "enumerate" = none) (ha : PA X [e] ta) (hs : starEach [e] X.env = [(false, eval e X.env)] := by rfl) :
    PI X (.Tuple elts kk tpos) (.Call (.Name "enumerate" p) [e] [] pos) (iEnumT X.K ta) := by
  constructor
  intro pins s σ H R I h
  refine Call_ (ld_blt I got hm boot_enumerate (PyProof.Rows.callWith_type1 (thn (ha.run pos pins s σ H _ I h) fun us s1 ⟨vs, H1, J1, r1, q1⟩ => ?_) hs rfl))
  obtain ⟨a, xs, ex, wq, q⟩ := q1
  subst ex
  cases r1 with
  | cons r rr =>
    cases rr
    cases r
    obtain ⟨cells, rds, p', szz⟩ := J1.tuple wq
    refine call_enumerate_tup p' fun h' qe qi hsz keep1 => wpAny_pyIter_enum qe ?_
    have J2 : Inv X pins σ H1 { s1 with heap := h' } := J1.kept (t' := s1.toks) keep1
    refine ⟨s1.heap.objs.size + 1, [s1.heap.objs.size + 1, s1.heap.objs.size], _, _, H1, rfl, J2, turn_enumT a (s1.heap.objs.size + 1) s1.heap.objs.size, ⟨⟨.none, qe⟩, qi, Nat.succ_ne_self _⟩, fun bb mb => ?_, q⟩
    have e' : bb = s1.heap.objs.size + 1 ∨ bb = s1.heap.objs.size := by simpa using mb
    have above : bb ≥ s1.heap.objs.size := by
      rcases e' with w9 | w9 <;> rw [w9]
      · exact Nat.le_succ _
      · exact Nat.le.refl
    exact J1.fpOk above (J1.hok.fresh above)
/-- enumerate of a list or of a tuple -/
theorem pi_or {X : Cx} {tg l : Expr} {w1 w2 : TI} (h1 : PI X tg l w1) (h2 : PI X tg l w2) : PI X tg l (fun σ H R => w1 σ H R ∨ w2 σ H R) := ⟨fun pins s σ H R I h => by
  rcases h with h | h
  · exact h1.run pins s σ H R I h
  · exact h2.run pins s σ H R I h⟩
end Vf

namespace Vf
open PySem L2 PySem.Spec PyProof.Rows
/-! ### rules with the written part named (inside a comprehension nothing may lean on its block) -/
section
variable {X : Cx} (K : PySem.W.Frag) {pos : Pos}
theorem ixL (hK : X.K = K := by rfl) : IxR X (rIxL K) := hK ▸ ix_list
theorem ixT (hK : X.K = K := by rfl) : IxR X (rIxT K) := hK ▸ ix_tup
theorem slL (hK : X.K = K := by rfl) : SlR X (rSlL K) := hK ▸ sl_list
theorem slT (hK : X.K = K := by rfl) : SlR X (rSlA K) := hK ▸ sl_tupA
theorem eqDK (hu : X.A.units + 64 < cLine) (hK : X.K = K := by rfl) : OpR X (compareOp .Eq) (rEqD K) := hK ▸ op_eqD hu
theorem neDK (hu : X.A.units + 64 < cLine) (hK : X.K = K := by rfl) : OpR X (compareOp .NotEq) (rNeD K) := hK ▸ op_neD hu
theorem inSK (hK : X.K = K := by rfl) : OpR X (compareOp .In) (rIn K false) := hK ▸ op_in_seq
theorem niSK (hK : X.K = K := by rfl) : OpR X (compareOp .NotIn) (rIn K true) := hK ▸ op_notIn_seq
theorem lenSK (hK : X.K = K := by rfl) : CallR X (.builtin "len") (fun xs H Q => ∃ p ys, xs = [.ref p] ∧ (SqL K H p ys ∨ SqT K H p ys) ∧ Q (.int (ys.length : Nat)) H) := hK ▸ call_len_seq
theorem lstOK (hK : X.K = K := by rfl) : CallR X (.type "list") (fun xs H Q => ∃ p ys, xs = [.ref p] ∧ (SqL K H p ys ∨ SqT K H p ys) ∧ ∀ l, H l = none → Q (.ref l) (upd H l (.lst ys))) := hK ▸ call_list_of
theorem isiK (hK : X.K = K := by rfl) : CallR X (.builtin "isinstance") (rIsi K) := hK ▸ call_isi
theorem pe_fldK {e : Expr} {f : Str} {ta : TE} (ha : PE X e ta) (hb : attributeBase e f X.env (eval e X.env) = eval e X.env := by rfl) (hK : X.K = K := by rfl) : PE X (.Attribute e f pos) (tFld K ta f) := hK ▸ pe_fld ha hb
theorem pg_tupK {es : List Expr} {k : Nat} {t : TGs} {n : Nat} (hc : X.calm = true) (h : PGs X es t)
    (hn : (assignEach es X.env).length = n := by rfl) (hst : (assignEach es X.env).findIdx? (·.1) = none := by rfl) (hK : X.K = K := by rfl) : PG X (.Tuple es k pos) (gTup K n t) := hK ▸ pg_tup hc h hn hst
end
/-! ### readings of these -/
section
variable {σ : L2.St} {H : Hp} {K : PySem.W.Frag} {ta tb : TE} {as : TA}
theorem e_iRevR {tr : L2.St → Hp → (Int → Int → Hp → Prop) → Prop} {R : It → Hp → Prop} (q : tr σ H fun a b H1 => -(2 ^ 62) ≤ a ∧ a < 2 ^ 62 ∧ -(2 ^ 62) ≤ b ∧ b < 2 ^ 62 ∧ R (Itc (a + (((b - a).toNat : Nat) : Int) - 1) (-1) (b - a).toNat) H1) : iRevR tr σ H R := q
theorem e_rg1 {Q : Int → Int → Hp → Prop} (q : ta σ H fun x H1 => ∃ n, x = .int n ∧ Q 0 n H1) : tRg1 ta σ H Q := q
theorem e_rg2 {Q : Int → Int → Hp → Prop} (q : ta σ H fun x H1 => tb σ H1 fun y H2 => ∃ i j, x = .int i ∧ y = .int j ∧ Q i j H2) : tRg2 ta tb σ H Q := q
theorem e_iEnum {R : It → Hp → Prop} (q : as σ H fun vs H1 => ∃ a xs, vs = [.ref a] ∧ SqL K H1 a xs ∧ R (Ite K a) H1) : iEnum K as σ H R := q
theorem e_iEnumT {R : It → Hp → Prop} (q : as σ H fun vs H1 => ∃ a xs, vs = [.ref a] ∧ SqT K H1 a xs ∧ R (IteT K a) H1) : iEnumT K as σ H R := q
theorem e_iRng3 {R : It → Hp → Prop} (q : as σ H fun vs H1 => ∃ (i j c : Int) (n : Nat), vs = [.int i, .int j, .int c] ∧ RgC i j c n ∧ R (Itc i c n) H1) : iRng3 as σ H R := q
theorem e_slL {Q : VK} {p : Addr} {xs : List V} {lo hi : Option Int} (h : SqL K H p xs) (q : ∀ r, H r = none → Q (.ref r) (upd H r (.lst (cutV xs lo hi)))) : rSlL K (.ref p) lo hi H Q := ⟨p, xs, rfl, h, q⟩
theorem e_app {Q : VK} {l : Addr} {xs : List V} {y : V} (h : H l = some (.lst xs)) (hz : xs.length < sizeLine) (q : Q .non (upd H l (.lst (xs ++ [y])))) : rAppend (.ref l) [y] H Q := ⟨l, xs, y, rfl, rfl, h, hz, q⟩
theorem e_ext {Q : VK} {l b : Addr} {xs zs : List V} (h : H l = some (.lst xs)) (hb : H b = some (.lst zs)) (hz : xs.length + zs.length ≤ sizeLine) (q : Q .non (upd H l (.lst (xs ++ zs)))) : rExtend (.ref l) [.ref b] H Q := ⟨l, b, xs, zs, rfl, rfl, h, hb, hz, q⟩
end
/-! ### rows of ints as data -/
abbrev Di (l : List Int) : List PyData := l.map PyData.int
theorem dpAll_ints {K : PySem.W.Frag} {H : Hp} : ∀ xs : List Int, DpAll K H (xs.map V.int) (Di xs)
  | [] => .nil
  | x :: r => .cons (.int x) (dpAll_ints r)
theorem eqvAll_ints : ∀ xs ys : List Int, PyData.eqvAll (Di xs) (Di ys) = decide (xs = ys)
  | [], [] => by
      simp [PyData.eqvAll]
  | [], _ :: _ => by
      simp [PyData.eqvAll]
  | _ :: _, [] => by
      simp [PyData.eqvAll]
  | x :: xs, y :: ys => by
    have ih := eqvAll_ints xs ys
    show (PyData.eqv (.int x) (.int y) && PyData.eqvAll (Di xs) (Di ys)) = _
    rw [ih]
    show ((x == y) && decide (xs = ys)) = decide (x :: xs = y :: ys)
    by_cases h : x = y
    · subst h; simp
    · simp [h]
theorem canAll_ints : ∀ xs : List Int, PyData.canLayAll0 (Di xs) = true
  | [] => rfl
  | x :: r => by
    show (PyData.canLay0 (.int x) && PyData.canLayAll0 (Di r)) = true
    rw [canAll_ints r]; rfl
theorem depthAll_ints : ∀ xs : List Int, PyData.depthAll (Di xs) = 0
  | [] => rfl
  | x :: r => by
    show max 0 (PyData.depthAll (Di r)) = 0
    rw [depthAll_ints r]; rfl
theorem shaped_list {ds : List PyData} (h1 : PyData.canLayAll0 ds = true) (h2 : PyData.depthAll ds ≤ 60) : SeqAt.shaped (.list ds) = true := by
  unfold SeqAt.shaped
  rw [show PyData.canLay0 (.list ds) = PyData.canLayAll0 ds from rfl, h1, show PyData.depth (.list ds) = PyData.depthAll ds + 1 from rfl]
  simp
  omega
theorem shaped_tuple {ds : List PyData} (h1 : PyData.canLayAll0 ds = true) (h2 : PyData.depthAll ds ≤ 60) : SeqAt.shaped (.tuple ds) = true := by
  unfold SeqAt.shaped
  rw [show PyData.canLay0 (.tuple ds) = PyData.canLayAll0 ds from rfl, h1, show PyData.depth (.tuple ds) = PyData.depthAll ds + 1 from rfl]
  simp
  omega
theorem shaped_li (xs : List Int) : SeqAt.shaped (.list (Di xs)) = true := shaped_list (canAll_ints xs) (by rw [depthAll_ints]; decide)
theorem shaped_ti (xs : List Int) : SeqAt.shaped (.tuple (Di xs)) = true := shaped_tuple (canAll_ints xs) (by rw [depthAll_ints]; decide)
section
variable {K : PySem.W.Frag} {H : Hp} {Q : VK} {a b : Addr} {xs ys : List Int}
theorem e_eqLL (h1 : SqL K H a (xs.map V.int)) (h2 : SqL K H b (ys.map V.int)) (q : Q (.bl (decide (xs = ys))) H) : rEqD K (.ref a) (.ref b) H Q :=
  ⟨_, _, .lst h1 (dpAll_ints xs), .lst h2 (dpAll_ints ys), shaped_li xs, shaped_li ys, by rw [show PyData.eqv (.list (Di xs)) (.list (Di ys)) = PyData.eqvAll (Di xs) (Di ys) from rfl, eqvAll_ints]; exact q⟩
theorem e_neLL (h1 : SqL K H a (xs.map V.int)) (h2 : SqL K H b (ys.map V.int)) (q : Q (.bl (!decide (xs = ys))) H) : rNeD K (.ref a) (.ref b) H Q :=
  ⟨_, _, .lst h1 (dpAll_ints xs), .lst h2 (dpAll_ints ys), shaped_li xs, shaped_li ys, by rw [show PyData.eqv (.list (Di xs)) (.list (Di ys)) = PyData.eqvAll (Di xs) (Di ys) from rfl, eqvAll_ints]; exact q⟩
theorem e_eqTT (h1 : SqT K H a (xs.map V.int)) (h2 : SqT K H b (ys.map V.int)) (q : Q (.bl (decide (xs = ys))) H) : rEqD K (.ref a) (.ref b) H Q :=
  ⟨_, _, .tup h1 (dpAll_ints xs), .tup h2 (dpAll_ints ys), shaped_ti xs, shaped_ti ys, by rw [show PyData.eqv (.tuple (Di xs)) (.tuple (Di ys)) = PyData.eqvAll (Di xs) (Di ys) from rfl, eqvAll_ints]; exact q⟩
theorem e_neTT (h1 : SqT K H a (xs.map V.int)) (h2 : SqT K H b (ys.map V.int)) (q : Q (.bl (!decide (xs = ys))) H) : rNeD K (.ref a) (.ref b) H Q :=
  ⟨_, _, .tup h1 (dpAll_ints xs), .tup h2 (dpAll_ints ys), shaped_ti xs, shaped_ti ys, by rw [show PyData.eqv (.tuple (Di xs)) (.tuple (Di ys)) = PyData.eqvAll (Di xs) (Di ys) from rfl, eqvAll_ints]; exact q⟩
end
/-! ### the order of alike data -/
def rLtD (K : PySem.W.Frag) : R2 := fun x y H Q => ∃ d e, Dp K H x d ∧ Dp K H y e ∧ PySem.W.alike d e = true ∧ d ≠ .none ∧ d.depth ≤ 60 ∧ Q (.bl (PySem.W.dataLt d e)) H
def rGtD (K : PySem.W.Frag) : R2 := fun x y H Q => ∃ d e, Dp K H x d ∧ Dp K H y e ∧ PySem.W.alike d e = true ∧ d ≠ .none ∧ d.depth ≤ 60 ∧ Q (.bl (PySem.W.dataLt e d)) H
theorem op_ltD {X : Cx} (hu : X.A.units + 64 < cLine) : OpR X (compareOp .Lt) (rLtD X.K) := by
  intro pins s σ H x y v u C I rx ry hq
  obtain ⟨d, e, hd, he, sd, se, hp, q⟩ := hq
  obtain ⟨toks1, r1⟩ := Dp.reads I d x v hd rx
  obtain ⟨toks2, r2⟩ := Dp.reads I e y u he ry
  exact PySem.W.lt_data r1 r2 sd se (by have := Nat.min_le_left d.depth e.depth; omega) ⟨.bl _, H, I, rfl, q⟩
theorem op_gtD {X : Cx} (hu : X.A.units + 64 < cLine) : OpR X (compareOp .Gt) (rGtD X.K) := by
  intro pins s σ H x y v u C I rx ry hq
  obtain ⟨d, e, hd, he, sd, se, hp, q⟩ := hq
  obtain ⟨toks1, r1⟩ := Dp.reads I d x v hd rx
  obtain ⟨toks2, r2⟩ := Dp.reads I e y u he ry
  exact PySem.W.gt_data r1 r2 sd se (by have := Nat.min_le_left d.depth e.depth; omega) ⟨.bl _, H, I, rfl, q⟩
theorem alikeAll_ints : ∀ xs ys : List Int, PySem.W.alikeAll (Di xs) (Di ys) = true
  | [], _ => by simp [PySem.W.alikeAll]
  | _ :: _, [] => by simp [PySem.W.alikeAll]
  | x :: xs, y :: ys => by
    show (PySem.W.alike (.int x) (.int y) && PySem.W.alikeAll (Di xs) (Di ys)) = true
    rw [alikeAll_ints xs ys]; rfl
theorem lt_ints : ∀ xs ys : List Int, PyProof.Rows.lexLt PyProof.Rows.itemOrd (PySem.W.keyToksAll (Di xs)) (PySem.W.keyToksAll (Di ys)) = HT.lexLt xs ys
  | [], [] => by decide
  | [], y :: ys => by
    show PyProof.Rows.lexLt PyProof.Rows.itemOrd [.inl 0] (.inl 1 :: _) = true
    rw [PySem.W.lex_atom (by decide)]
    decide
  | x :: xs, [] => by
    show PyProof.Rows.lexLt PyProof.Rows.itemOrd (.inl 1 :: _) [.inl 0] = false
    rw [PySem.W.lex_atom (by decide)]
    decide
  | x :: xs, y :: ys => by
    have ih := lt_ints xs ys
    show _ = if x = y then HT.lexLt xs ys else decide (x < y)
    by_cases h : x = y
    · subst h
      rw [if_pos rfl, ← ih]
      exact PySem.W.dataLt_all_yes (x := .int x) (y := .int x) rfl (by simp [PyData.eqv])
    · rw [if_neg h, ← PySem.W.dataLt_int x y]
      exact PySem.W.dataLt_all_no (x := .int x) (y := .int y) rfl (by simpa [PyData.eqv] using h)
theorem e_ltLL {K : PySem.W.Frag} {H : Hp} {Q : VK} {a b : Addr} {xs ys : List Int} (h1 : SqL K H a (xs.map V.int)) (h2 : SqL K H b (ys.map V.int)) (q : Q (.bl (HT.lexLt xs ys)) H) : rLtD K (.ref a) (.ref b) H Q :=
  ⟨_, _, .lst h1 (dpAll_ints xs), .lst h2 (dpAll_ints ys), alikeAll_ints xs ys, by simp, by show PyData.depthAll (Di xs) + 1 ≤ 60; rw [depthAll_ints]; decide, by
    rw [PySem.W.dataLt_list, lt_ints]; exact q⟩
/-! ### loops over rows of ints -/
theorem at_split {ns : List Int} {i : Nat} {x : V} (hx : (ns.map V.int)[i]? = some x) : ∃ y, x = .int y ∧ ns = ns.take i ++ y :: ns.drop (i + 1) ∧ ns.take (i + 1) = ns.take i ++ [y] := by
  rw [List.getElem?_map] at hx
  cases e : ns[i]? with
  | none => rw [e] at hx; cases hx
  | some y =>
    rw [e] at hx
    have e2 := (List.getElem?_eq_some_iff.mp e).2
    refine ⟨y, (Option.some.inj hx).symm, ?_, by rw [List.take_add_one, e]; rfl⟩
    rw [← e2, List.getElem_cons_drop, List.take_append_drop]
section
variable {K : PySem.W.Frag} {g : TG} {t : TS} {D : Ends} {σ : L2.St} {H : Hp} {tt : TT} {te : TE} {vs : List Nat} {Q : VK} {Da a : Addr} {ns : List Int}
theorem for_ints (Pv : List Int → L2.St → Hp → Prop) (h0 : Pv [] σ H) (hl : ∀ pre σ H, Pv pre σ H → SqL K H a (ns.map V.int))
    (hs : ∀ (pre : List Int) (x : Int) (post : List Int) σ H, ns = pre ++ x :: post → Pv pre σ H → g (.int x) σ H fun σ2 H2 => t { D with nx := Pv (pre ++ [x]), ct := Pv (pre ++ [x]), bk := D.nx } σ2 H2)
    (hd : ∀ σ H, Pv ns σ H → D.nx σ H) : ForB (Itl K a) g t D σ H := by
  refine for_list (xs := ns.map V.int) (fun i => Pv (ns.take i)) (by simpa using h0) (fun i σ H _ p => hl _ σ H p) (fun i x σ H hx p => ?_) (fun σ H p => ?_)
  · obtain ⟨y, rfl, e1, e2⟩ := at_split hx
    rw [e2]
    exact hs _ y _ σ H e1 p
  · rw [List.length_map, List.take_length] at p
    exact hd σ H p
theorem for_intsT (Pv : List Int → L2.St → Hp → Prop) (h0 : Pv [] σ H) (hl : ∀ pre σ H, Pv pre σ H → SqT K H a (ns.map V.int))
    (hs : ∀ (pre : List Int) (x : Int) (post : List Int) σ H, ns = pre ++ x :: post → Pv pre σ H → g (.int x) σ H fun σ2 H2 => t { D with nx := Pv (pre ++ [x]), ct := Pv (pre ++ [x]), bk := D.nx } σ2 H2)
    (hd : ∀ σ H, Pv ns σ H → D.nx σ H) : ForB (Itt K a) g t D σ H := by
  refine for_tup (xs := ns.map V.int) (fun i => Pv (ns.take i)) (by simpa using h0) (fun i σ H _ p => hl _ σ H p) (fun i x σ H hx p => ?_) (fun σ H p => ?_)
  · obtain ⟨y, rfl, e1, e2⟩ := at_split hx
    rw [e2]
    exact hs _ y _ σ H e1 p
  · rw [List.length_map, List.take_length] at p
    exact hd σ H p
theorem walk_enumT {xs : List V} : Walk (IteT K a) xs.length (fun H => SqT K H a xs) (YPair (fun i => some (.int (i : Nat))) (fun i => xs[i]?)) := by
  refine ⟨fun i _ hi q => ⟨xs, xs[i], q, by simp [hi]⟩,
    fun _ q => ⟨xs, q, Nat.le_refl _⟩, fun i H v H' _ q y => ?_⟩
  obtain ⟨T, x, g1, g2, g3, g4⟩ := y
  exact ⟨T, .int (i : Nat), x, g1, g2, g3, rfl, g4 xs q⟩
theorem for_enumI (Pv : List Int → L2.St → Hp → Prop) (h0 : Pv [] σ H) (hl : ∀ pre σ H, Pv pre σ H → SqL K H a (ns.map V.int))
    (hs : ∀ (pre : List Int) (x : Int) (post : List Int) (T : Addr) σ H, ns = pre ++ x :: post → Pv pre σ H → H T = none → g (.ref T) σ (upd H T (.tup [.int (pre.length : Nat), .int x])) fun σ2 H2 => t { D with nx := Pv (pre ++ [x]), ct := Pv (pre ++ [x]), bk := D.nx } σ2 H2)
    (hd : ∀ σ H, Pv ns σ H → D.nx σ H) : ForB (Ite K a) g t D σ H := by
  refine for_it (walk_enum (xs := ns.map V.int)) (fun i => Pv (ns.take i)) (by simpa using h0) (fun i σ H _ p => hl _ σ H p) (fun i x σ H H' hi p y => ?_) (fun σ H p => ?_)
  · obtain ⟨T, u, v, rfl, hT, rfl, hu, hv⟩ := y
    obtain ⟨z, rfl, e1, e2⟩ := at_split hv
    cases (Option.some.inj hu)
    rw [e2]
    have hl : (ns.take i).length = i := by rw [List.length_map] at hi; rw [List.length_take]; omega
    have q := hs (ns.take i) z _ T σ H e1 p hT
    rw [hl] at q
    exact q
  · rw [List.length_map, List.take_length] at p
    exact hd σ H p
theorem for_enumIT (Pv : List Int → L2.St → Hp → Prop) (h0 : Pv [] σ H) (hl : ∀ pre σ H, Pv pre σ H → SqT K H a (ns.map V.int))
    (hs : ∀ (pre : List Int) (x : Int) (post : List Int) (T : Addr) σ H, ns = pre ++ x :: post → Pv pre σ H → H T = none → g (.ref T) σ (upd H T (.tup [.int (pre.length : Nat), .int x])) fun σ2 H2 => t { D with nx := Pv (pre ++ [x]), ct := Pv (pre ++ [x]), bk := D.nx } σ2 H2)
    (hd : ∀ σ H, Pv ns σ H → D.nx σ H) : ForB (IteT K a) g t D σ H := by
  refine for_it (walk_enumT (xs := ns.map V.int)) (fun i => Pv (ns.take i)) (by simpa using h0) (fun i σ H _ p => hl _ σ H p) (fun i x σ H H' hi p y => ?_) (fun σ H p => ?_)
  · obtain ⟨T, u, v, rfl, hT, rfl, hu, hv⟩ := y
    obtain ⟨z, rfl, e1, e2⟩ := at_split hv
    cases (Option.some.inj hu)
    rw [e2]
    have hl : (ns.take i).length = i := by rw [List.length_map] at hi; rw [List.length_take]; omega
    have q := hs (ns.take i) z _ T σ H e1 p hT
    rw [hl] at q
    exact q
  · rw [List.length_map, List.take_length] at p
    exact hd σ H p
/-- [e for k in range(a, b, c)], e a function of the turn -/
theorem lc_map_rngC {lo c : Int} {n : Nat} {H0 : Hp} (hD : H0 Da = none) (hn : n ≤ 1000000) (f : Nat → V)
    (hs : ∀ (i : Nat) (H2 : Hp) (C : VK) (E : Hp → Prop), i < n → Same H0 H2 → (∀ H3, Same H2 H3 → C (f i) H3) →
      g (.int (lo + (i : Nat) * c)) (wipe σ vs) H2 fun σ2 H2 => wipe σ2 vs = wipe σ vs ∧ tYes σ2 H2 fun b H3 => if b = true then te σ2 H3 C else E H3)
    (hd : ∀ (H : Hp), Same H0 H → H Da = some (.lst ((List.range n).map f)) → Q (.ref Da) H) : LcB (Itc lo c n) g tYes te vs σ Da H0 Q := by
  refine lc_it walk_rangeC (fun i H2 => Same H0 H2 ∧ H2 Da = some (.lst ((List.range i).map f))) ⟨same_new hD, upd_same⟩ (fun _ _ _ _ => trivial) (fun i x H2 H' hi p y => ?_) (fun H2 p => hd H2 p.1 p.2)
  obtain ⟨rfl, rfl⟩ := y
  obtain ⟨k4, e4⟩ := p
  refine hs i _ _ _ hi k4 fun H3 k5 => ?_
  refine ⟨_, k5 _ _ e4, Nat.lt_of_le_of_lt (by simp; omega : _ ≤ 1000000) (by decide), Same.mut (k4.trans k5) hD, ?_⟩
  rw [upd_same, List.range_succ, List.map_append]
  rfl
end
theorem i_bneself {b : Bool} {A B : Prop} (h : B) : if (b != b) = true then A else B := by
  have e : (b != b) = false := by cases b <;> rfl
  rw [e]; exact i_F h
theorem i_beself {b : Bool} {A B : Prop} (h : A) : if (b == b) = true then A else B := by
  rw [beq_self_eq_true]; exact i_T h
/-! ### a list or a tuple -/
/-- a row of values, a list's or a tuple's -/
abbrev SqE (K : PySem.W.Frag) (H : Hp) (p : Addr) (xs : List V) : Prop := SqL K H p xs ∨ SqT K H p xs
theorem Same.seqE {K : PySem.W.Frag} {H H' : Hp} {a : Addr} {xs : List V} (e : Same H H') (h : SqE K H a xs) : SqE K H' a xs := by
  rcases h with h | h
  · exact .inl (e.seq h)
  · refine .inr ?_
    rcases h with (h | ⟨c9, h⟩) | h
    · exact .inl (.inl (e _ _ h))
    · exact .inl (.inr ⟨c9, e _ _ h⟩)
    · exact .inr h
theorem e_ixE {K : PySem.W.Frag} {H : Hp} {Q : VK} {p : Addr} {xs : List V} {i : Int} {v : V} (h : SqE K H p xs) (ha : atI xs i = some v) (q : Q v H) : rIxL K (.ref p) (.int i) H Q ∨ rIxT K (.ref p) (.int i) H Q := by
  rcases h with h | h
  · exact .inl (e_ixL h ha q)
  · exact .inr (e_ixT h ha q)
/-- a list of the turn's values, over a list -/
theorem lc_map_lstI {K : PySem.W.Frag} {g : TG} {te : TE} {vs : List Nat} {σ : L2.St} {Da a : Addr} {H0 : Hp} {Q : VK} {xs : List V} (hS : SqL K H0 a xs) (hD : H0 Da = none) (hn : xs.length ≤ 1000000) (f : Nat → V)
    (hs : ∀ (i : Nat) (x : V) (H2 : Hp) (C : VK) (E : Hp → Prop), xs[i]? = some x → Same H0 H2 → (∀ H3, Same H2 H3 → C (f i) H3) →
      g x (wipe σ vs) H2 fun σ2 H2 => wipe σ2 vs = wipe σ vs ∧ tYes σ2 H2 fun b H3 => if b = true then te σ2 H3 C else E H3)
    (hd : ∀ (H : Hp), Same H0 H → H Da = some (.lst ((List.range xs.length).map f)) → Q (.ref Da) H) : LcB (Itl K a) g tYes te vs σ Da H0 Q := by
  refine lc_list (xs := xs) (fun i H2 => Same H0 H2 ∧ H2 Da = some (.lst ((List.range i).map f))) ⟨same_new hD, upd_same⟩ (fun i H2 _ p => p.1.seq hS) (fun i x H2 hx p => ?_) (fun H2 p => hd H2 p.1 p.2)
  obtain ⟨k4, e4⟩ := p
  have hi := (List.getElem?_eq_some_iff.mp hx).1
  refine hs i x H2 _ _ hx k4 fun H3 k5 => ?_
  refine ⟨_, k5 _ _ e4, Nat.lt_of_le_of_lt (by rw [List.length_map, List.length_range]; omega : _ ≤ 1000000) (by decide), Same.mut (k4.trans k5) hD, ?_⟩
  rw [upd_same, List.range_succ, List.map_append]
  rfl
end Vf

namespace Vf
open PySem L2 PySem.Spec PyProof.Rows
/-- a plain tuple of pairs: made by tuple(list), or by an update -/
def PlT (H : Hp) (a : Addr) (xs : List V) : Prop := ∃ o : Obj, o.dict = none ∧ H a = some (.frz o (.tup xs))
theorem PlT.seq {K : PySem.W.Frag} {H : Hp} {a : Addr} {xs : List V} (h : PlT H a xs) : SqT K H a xs := by
  obtain ⟨o, _, e⟩ := h
  exact .inl (.inr ⟨o, e⟩)
theorem PlT.same {H H' : Hp} {a : Addr} {xs : List V} (h : PlT H a xs) (e : Same H H') : PlT H' a xs := by
  obtain ⟨o, d, q⟩ := h
  exact ⟨o, d, e _ _ q⟩
theorem uvs_of {X : Cx} {pins : List (Addr × Obj)} {σ : L2.St} {H : Hp} {s : Shared} (I : Inv X pins σ H s) : ∀ {ps : List Addr} {kvs : List (Key × V)}, Paired (fun p kv => SqT X.K H p [kV kv.1, kv.2]) ps kvs →
    ∃ (prs : List (Key × Value)) (uvs : List (Value × Value)), KV kvs prs ∧ prs.length = ps.length ∧ uvs.length = ps.length ∧
      ∀ (j : Nat) (u y : Value), uvs[j]? = some (u, y) → ∃ (b : Addr) (k : Key), ps[j]? = some b ∧ PairAt s.heap b u y ∧ prs[j]? = some (k, y) ∧ keyIs k u = true
  | _, _, .nil => ⟨[], [], .nil, rfl, rfl, fun j u y e => by simp at e⟩
  | _, _, .cons (a := p) (b := kv) h t => by
    obtain ⟨prs, uvs, r, l1, l2, q⟩ := uvs_of I t
    obtain ⟨its, rv, ht, _⟩ := I.tuple h
    obtain ⟨u, y, rfl, ru, ry⟩ := vals2 rv
    refine ⟨(kv.1, y) :: prs, (u, y) :: uvs, .cons ⟨rfl, ry⟩ r, by simp [l1], by simp [l2], fun j u' y' e => ?_⟩
    cases j with
    | zero =>
      cases (Option.some.inj e)
      exact ⟨p, kv.1, rfl, .inl ht, rfl, kV_is (P := X.prog) (w := X.w) ru⟩
    | succ j =>
      obtain ⟨b, k, e1, e2, e3, e4⟩ := q j u' y' (by simpa using e)
      exact ⟨b, k, by simpa using e1, e2, by simpa using e3, e4⟩
theorem refs_of : ∀ {ps : List Addr} {us : List Value}, Vals (ps.map V.ref) us → us = ps.map Value.ref
  | [], _, .nil => rfl
  | p :: ps, _, .cons h t => by
    cases h
    rw [refs_of t]
    rfl
/-- dict(t), t a plain tuple of pairs -/
theorem call_dictPT {X : Cx} (hcalm : X.calm = true) : CallR X (.type "dict") (fun xs H Q => ∃ (a : Addr) (ps : List Addr) (kvs : List (Key × V)), xs = [.ref a] ∧ PlT H a (ps.map V.ref) ∧ Paired (fun p kv => SqT X.K H p [kV kv.1, kv.2]) ps kvs ∧
    ∀ p, H p = none → Q (.ref p) (upd H p (.dK (mergeK [] kvs)))) := by
  intro pins s σ H xs us Q I r q
  obtain ⟨a, ps, kvs, rfl, ⟨o, hd, ea⟩, hp, q⟩ := q
  obtain ⟨u, rfl, rx⟩ := vals1 r
  cases rx
  obtain ⟨ho, hz, its, rv, o2, ho2, hc, n, hdat⟩ := (show ObjOk X.prog X.w H s.heap a (.frz o (.tup (ps.map V.ref))) from I.hok a _ ea)
  rw [ho] at ho2
  cases (Option.some.inj ho2)
  have ei := refs_of rv
  subst ei
  rw [List.length_map] at hz
  obtain ⟨prs, uvs, rel, l1, l2, hq⟩ := uvs_of I hp
  have ok : PlainSeq "tuple" s.heap a (ps.map Value.ref).toArray ∧ PairItems s.heap (ps.map Value.ref).toArray (fun j => ps.getD j 0) uvs := by
    refine ⟨⟨o, n, ho, hc, hd, hdat⟩, by simp [l2], fun j k v hj => ?_⟩
    obtain ⟨b, key, e1, e2, _, _⟩ := hq j k v hj
    have e5 : ps.getD j 0 = b := by rw [List.getD_eq_getElem?_getD, e1]; rfl
    show _ ∧ PairAt s.heap (ps.getD j 0) k v
    rw [e5]
    exact ⟨by simp [e1], e2⟩
  refine PySem.call_dict_pairs (knd := mixKind X.prog X.w) (kvs := prs) (PairArg.tuple a (ps.map Value.ref).toArray (fun j => ps.getD j 0) uvs) (I.ok.hd hcalm) ok ⟨by rw [l1, l2], fun i key v hr => ?_⟩ (by rw [l2]; exact hz) fun h' tk hd' k => ?_
  · obtain ⟨b, k, _, _, e3, e4⟩ := hq i key v hr
    exact ⟨k, e3, e4⟩
  · have hm : (s.heap.objs.size == sysModules) = false := beq_eq_false_iff_ne.mpr (Nat.ne_of_gt I.big)
    have hlen : (mergeK [] kvs).length ≤ sizeLine := by
      have h1 := length_mergeK kvs []
      have h2 := rel.length
      rw [List.length_nil] at h1
      omega
    exact ⟨.ref s.heap.objs.size, upd H s.heap.objs.size (.dK (mergeK [] kvs)), I.laid (t' := tk) (fun b ob e => k b ob (by simp) e) (Nat.le_refl _) (show ObjOk X.prog X.w _ _ _ (.dK (mergeK [] kvs)) from ⟨hlen, hm, merged [] prs, KV.merge rel .nil, hd'⟩), rfl, q _ (I.hok.fresh (Nat.le_refl _))⟩
/-- tuple(l), l a list: a plain tuple -/
theorem call_tupleF {X : Cx} : CallR X (.type "tuple") (fun xs H Q => ∃ p ys, xs = [.ref p] ∧ SqL X.K H p ys ∧ ∀ l H', H l = none → Same H H' → PlT H' l ys → (∀ b, b ≠ l → H' b = H b) → Q (.ref l) H') := by
  intro pins s σ H xs us Q I r q
  obtain ⟨p, ys, rfl, hq, q⟩ := q
  obtain ⟨u, rfl, rx⟩ := vals1 r
  cases rx
  obtain ⟨its, rv, pl, hz⟩ := I.list hq
  have hlen := rv.length
  refine call_tuple_list pl.isList (fun h' kp => ?_) (by simp only [List.size_toArray] <;> omega)
  have J1 : Inv X pins σ H { s with heap := h' } := I.kept (t' := s.toks) kp
  have hfr := J1.hok.fresh (Nat.le_refl _)
  have J2 : Inv X pins σ (upd H h'.objs.size (.frz { cls := .type "tuple", data := .seq its.toArray } (.tup ys))) { s with heap := h'.push { cls := .type "tuple", data := .seq its.toArray } } :=
    J1.laid (t' := s.toks) (fun b ob e => Heap.get?_push_of_some _ e) (Nat.le_refl _) ⟨Heap.get?_push_size _ rfl, hz, its, rv, IsTup.new _ _⟩
  exact ⟨.ref h'.objs.size, _, J2, rfl, q _ _ hfr (same_new hfr) ⟨_, rfl, upd_same⟩ fun b hb => upd_ne hb⟩
theorem tupFK (K : PySem.W.Frag) {X : Cx} (hK : X.K = K := by rfl) : CallR X (.type "tuple") (fun xs H Q => ∃ p ys, xs = [.ref p] ∧ SqL K H p ys ∧ ∀ l H', H l = none → Same H H' → PlT H' l ys → (∀ b, b ≠ l → H' b = H b) → Q (.ref l) H') := hK ▸ call_tupleF
end Vf

namespace PySem
namespace ErrX
open PySem.W PySem.Calls PyProof.Rows PySem.HandSPX
/-! ### the text of __init__ -/
def iA (p1 p2 : Pos) : Arguments := { posonlyargs := [], args := [{ arg := "self", annotation := none, pos := p1 }, { arg := "place", annotation := none, pos := p2 }], vararg := none, kwonlyargs := [], kw_defaults := [], kwarg := none, defaults := [] }
def iB (q1 q2 q3 q4 : Pos) : List Stmt := [.Assign [.Attribute (.Name "self" q1) "place" q2] (.Name "place" q3) q4]
def iS : Scope := { kind := .function, names := [(PySem.Str.ofString "self", .local), (PySem.Str.ofString "place", .local)], isGenerator := false, isCoroutine := false, more := [] }
/-- what the written part says of Low, at C, and of its __init__, at fI -/
structure ErrTxt (K : Frag) (mg : Str → Option Value) (x : Str) (C fI : Addr) : Prop where
  gC : mg x = some (.ref C)
  cls : ∃ nm q N bs bm sn sub ab col dd k0 k1 k2 k3 k5, K.lookup C = some (excClassObj nm q C N bs bm true sn sub ab col dd k0 k1 k2 k3 k5 "ValueError.__new__") ∧ refsVE bm = true
  sa : findIn K (.ref C) "__setattr__" = some (some (.builtin "object.__setattr__"))
  ga : findIn K (.ref C) "__getattribute__" = some (some (.builtin "BaseException.__getattribute__"))
  gg : findIn K (.ref C) "__getattr__" = some none
  noN : findIn K (.ref C) "place" = some none
  iC : findIn K (.ref C) "__init__" = some (some (.ref fI))
  tC : typeIn K (.ref fI) = some (.type "function")
  kC : keepIn K (.ref C) = true
  exC : subIn K (.ref C) (.type "BaseException") = some true
  tyC : typeIn K (.ref C) = some (.type "type")
  hdC : hasDictIn K C = true
  te : exmOne K (.ref C) (.ref C) = some true
  fn : ∃ (oc : Value) (od : Option Addr) (kV doc pm : Value) (an : Option Addr) (cdv ct : Value) (osl : Array (Option Value)) (p1 p2 q1 q2 q3 q4 : Pos),
    K.lookup fI = some ⟨oc, od, .func (fnOf "__init__" "FolderkinError.__init__" (iA p1 p2) (iB q1 q2 q3 q4) iS .none kV doc pm an cdv ct), osl⟩ ∧ codeIn K cdv "FolderkinError.__init__" = true
theorem one_size (v : Value) : [v].length ≤ sizeLine := by
  rw [sizeLine_eq]
  exact (by decide : 1 ≤ 16777216)
theorem kept_but {K : Frag} {h h' : Heap} {x : Addr} (X : K.In h) (hx : K.lookup x = none) (k : ∀ b o, b ≠ x → h.get? b = some o → h'.get? b = some o) : K.In h' := fun a o e =>
  k a o (fun z => by rw [z, hx] at e; cases e) (X a o e)
theorem ldC {M : Model} {s : Shared} {name : Str} {scope : Scope} {L a : Addr} {cd : Value} {m : Str → Option Value} {x : Str} {pos : Pos} {v : Value} {Q : Value → Shared → Prop} {A : Around} {E : Value → Shared → Prop} (hn : s.heap.Ns L m) (hv : m x = some v) (h : Q v s)
    (hk : scope.kind = .function := by rfl) (hl : (envOfC name scope L a cd).kindOf x = some .local := by rfl) (hd : (x == ("__debug__" : Str)) = false := by decide) :
    wpAny M A (eval (.Name x pos) (envOfC name scope L a cd)) Q E s := wpAny_Name (wpAny_loadName_local hk hl hn hv h) hd
/-- what __init__ leaves of a fresh exception at x -/
structure InitEnd (h h' : Heap) (x C dx t1 : Addr) (v : Value) : Prop where
  keep : ∀ b o, b ≠ x → h.get? b = some o → h'.get? b = some o
  obj : h'.get? x = some { cls := .ref C, dict := some dx, data := .fields #[.ref t1, .none, .none, .none, .bool false, .none] }
  dbig : h.objs.size ≤ dx
  dne : dx ≠ x
  ns : h'.Ns1 dx (fun y => if y = "place" then some v else none)
/-- a made Low -/
structure OwnMade (h h' : Heap) (e C d : Addr) (v : Value) : Prop where
  keep : ∀ b o, h.get? b = some o → h'.get? b = some o
  new : h.objs.size ≤ e
  obj : ∃ oe vs, h'.get? e = some oe ∧ oe.cls = .ref C ∧ oe.dict = some d ∧ oe.data = .fields vs ∧ vs[1]? = some .none
  dbig : h.objs.size ≤ d
  dne : d ≠ e
  ns : h'.Ns1 d (fun y => if y = "place" then some v else none)
section
variable {prog : Program} {w : World} {A : Around} {E : Value → Shared → Prop} {R : Result → Shared → Prop} {s : Shared} {K : Frag} {mg : Str → Option Value} {C fI : Addr}
theorem err_init (T : ErrTxt K mg nmx C fI) {x t0 : Addr} {v : Value} (X : K.In s.heap) (hlim : s.heap.NoLimit) (hx : s.heap.get? x = some (excO C t0)) (hnx : K.lookup x = none) (hroom : A.depth < recursionLimit)
    (hq : ∀ h' tk dx, InitEnd s.heap h' x C dx t0 v → R (.ok (.ret .none)) { s with heap := h', toks := tk }) :
    codeAny (model prog w) A (.call (.ref fI) ⟨[.ref x, v], []⟩) R s := by
  obtain ⟨oc, od, kV, doc, pm, an, cdv, ct, osl, p1, p2, q1, q2, q3, q4, ho, hcd⟩ := T.fn
  obtain ⟨nm, q, N, bs, bm, sn, sub, ab, col, dd, k0, k1, k2, k3, k5, hC, hbm⟩ := T.cls
  have hcl : clsIn K C = some { name := nm, bases := bs, mro := .ref C :: bm, ns := N, qualname := q, hasDict := true, slotNames := sn, subclasses := sub, abstract := ab, collection := col, hasDel := false } := by unfold clsIn; rw [hC] <;> rfl
  refine Att.call_fn (binds := [("self", .ref x), ("place", v)]) X hlim ho hcd hroom (BindsTo.of_eq (by first | rfl | with_unfolding_all rfl)) (by first | rfl | decide | with_unfolding_all rfl) (fun s₁ IC => ?_) rfl rfl rfl
  obtain ⟨h₁, tk₁, rfl⟩ := IC.toInCall.same
  have k : ∀ b o, s.heap.get? b = some o → h₁.get? b = some o := IC.toInCall.keep
  have hn := IC.toInCall.ns
  have hxL : s.heap.objs.size ≠ x := Nat.ne_of_gt (Heap.lt_size hx)
  have X₁ : K.In h₁ := X.keeps k
  have hx₁ := k _ _ hx
  -- self.by = by
  show wpAny _ _ (execs _ _) _ _ _
  refine wpAny_execs_cons (plainObj_wpAny_Assign_Attribute ?_)
  refine ldC (v := v) hn (by first | rfl | with_unfolding_all rfl | kernel_rfl) (ldC (v := .ref x) hn (by first | rfl | with_unfolding_all rfl | kernel_rfl) ?_)
  refine set_plain X₁ (ox := excO C t0) (od := none) ⟨hx₁, rfl, rfl, trivial⟩ T.sa ?_
  refine exc_osa X₁ hx₁ hcl (show refsVE (.ref C :: bm) = true from hbm) rfl T.noN (fun h₃ tk₃ dx k₃ dn dne hx₃ hn₃ => ?_)
  show wpAny _ _ (execs _ _) _ _ _
  have z : s.heap.objs.size < h₁.objs.size := hn.lt
  exact wpAny_execs_nil (hq h₃ tk₃ dx ⟨fun b o hb e => k₃ b o hb (k b o e), hx₃, Nat.le_of_lt (Nat.lt_of_lt_of_le z dn), dne, hn₃⟩)
theorem err_made (T : ErrTxt K mg nmx C fI) {v : Value} (X : K.In s.heap) (hlim : s.heap.NoLimit) (hroom : A.depth + 1 < recursionLimit)
    (hq : ∀ h' tk e d, OwnMade s.heap h' e C d v → R (.ok (.ret (.ref e))) { s with heap := h', toks := tk }) :
    codeAny (model prog w) A (.call (.ref C) ⟨[v], []⟩) R s := by
  obtain ⟨nm, q, N, bs, bm, sn, sub, ab, col, dd, k0, k1, k2, k3, k5, hC, hbm⟩ := T.cls
  obtain ⟨hp, g, dr, tk, os⟩ := s
  have k : ∀ b o, hp.get? b = some o → ((hp.push (kdv_tup [v])).push (excO C hp.objs.size)).get? b = some o := fun b o e => Heap.get?_push_of_some _ (Heap.get?_push_of_some _ e)
  have hget : ((hp.push (kdv_tup [v])).push (excO C hp.objs.size)).get? (hp.objs.size + 1) = some (excO C hp.objs.size) := by heap_get
  have hnx : K.lookup (hp.objs.size + 1) = none := by
    cases e : K.lookup (hp.objs.size + 1) with
    | none => rfl
    | some o =>
      have z : hp.get? (hp.objs.size + 1) = some o := X _ _ e
      exact absurd (Nat.lt_of_succ_lt (Heap.lt_size z)) (Nat.lt_irrefl _)
  refine call_own F.excBase_ValueError (fun X => refsVE_contains X bm hbm) (X _ _ hC) (looks_findIn X T.iC) (fun self => bind_fn X self T.tC) (one_size v) ?_
  refine err_init (s := ⟨(hp.push (kdv_tup [v])).push (excO C hp.objs.size), g, dr, tk, os⟩) T (X.keeps k) (hlim.keeps k) hget hnx ?_ fun h' tk' dx ⟨k', hx, dn, dne, hns⟩ => ?_
  · show A.depth + 1 < recursionLimit
    exact hroom
  · have old : ∀ b o, hp.get? b = some o → h'.get? b = some o := fun b o e => k' b o (Nat.ne_of_lt (Nat.lt_succ_of_lt (Heap.lt_size e))) (k b o e)
    have z : hp.objs.size + 1 + 1 ≤ dx := by
      first
        | (simpa only [Heap.size_push] using dn)
        | exact dn
        | (have q := dn; rw [Heap.size_push, Heap.size_push] at q; exact q)
    exact ⟨rfl, hq h' tk' (hp.objs.size + 1) dx ⟨old, Nat.le_succ _, ⟨_, _, hx, rfl, rfl, rfl, rfl⟩, Nat.le_trans (Nat.le_trans (Nat.le_succ _) (Nat.le_succ _)) z, dne, hns⟩⟩
end
end ErrX
end PySem
namespace L2
open PySem PySem.Spec PyProof.Rows
theorem relO_plc {v : V} {v' : Value} (r : RelV v v') (f : Str) : RelO (List.lookup f [(("place" : Str), v)]) (if f = "place" then some v' else none) := by
  by_cases hw : f = "place"
  · subst hw
    rw [if_pos rfl]
    have q : List.lookup ("place" : Str) [(("place" : Str), v)] = some v := by simp [List.lookup]
    rw [q]
    exact r
  · rw [if_neg hw]
    have qw : (f == ("place" : Str)) = false := by simpa using hw
    have q2 : List.lookup f [(("place" : Str), v)] = none := by simp [List.lookup, qw]
    rw [q2]
    trivial
section
variable {X : Cx} {C fI : Addr}
/-- Low(e) -/
def tMkErr (C : Addr) (ta : TA) : St → Hp → XK → Prop := fun σ H Q => ta σ H fun vs H1 => ∃ v, vs = [v] ∧ ∀ d, H1 d = none → Q (.ref C) (some d) (upd H1 d (.xd [(("place" : Str), v)]))
theorem pmk_err {a : Expr} {ta : TA} {p pos : Pos} {k : Nat} (T : PySem.ErrX.ErrTxt X.K X.mg nmx C fI) (hr : Room k X.A) (ha : PA X [a] ta) (hg : Gl X nmx := by rfl)
    (he : starEach (a :: []) X.env = (false, eval a X.env) :: starEach [] X.env := by rfl) (hpl : (backTo pos (starEach [] X.env)).any (·.1) = false := by rfl) (hdb : (nmx == ("__debug__" : Str)) = false := by decide) :
    PMk X (.Call (.Name nmx p) [a] [] pos) (tMkErr C ta) := by
  intro pins s σ H Q I h
  refine wpAny_Call_Name_kw (ld_glob I hg T.gC ?_ hdb)
  refine PySem.W.callWith_K (h₀ := X.base) I.ok.mod.kin T.kC (thn (ha.run pos pins s σ H _ I h) fun us s1 hh => ?_) he hpl
  obtain ⟨vs, H1, I1, r1, v, ev, q1⟩ := hh
  subst ev
  refine ⟨I1.kIn, ?_⟩
  cases r1 with
  | cons rv rn =>
    rename_i v' us'
    cases rn
    show wpAny _ _ (call (.ref C) [v']) _ _ _
    have hlim := I1.nolimit
    obtain ⟨hp, g, dr, tk, os⟩ := s1
    refine wpAny_call (PySem.ErrX.err_made T I1.kIn hlim (by have := hr.dp; omega) fun h' tk' e d M => ?_)
    show MkP X pins σ Q (.ref e) ⟨h', g, dr, tk', os⟩
    obtain ⟨oe, fv, hoe, hc, hd, hdat, h1⟩ := M.obj
    have hns := M.ns
    obtain ⟨G', g1, g2⟩ := restrict h' fun b => decide (b ≠ e)
    have gk : ∀ b, b ≠ e → G'.get? b = h'.get? b := fun b hb => g1 b (decide_eq_true hb)
    have ge : G'.get? e = none := g2 e (by simp)
    have old : ∀ b o, hp.get? b = some o → G'.get? b = some o := fun b o q => (gk b (Nat.ne_of_lt (Nat.lt_of_lt_of_le (Heap.lt_size q) M.new))).trans (M.keep b o q)
    have ob : ObjOk X.prog X.w (upd H1 d (.xd [(("place" : Str), v)])) G' d (.xd [(("place" : Str), v)]) :=
      ⟨_, hns.at (fun o q => (gk d M.dne).trans q), fun f => relO_plc rv f⟩
    have J : Inv X pins σ (upd H1 d (.xd [(("place" : Str), v)])) ⟨G', g, dr, tk', os⟩ := I1.laid (t' := tk') old M.dbig ob
    refine ⟨e, oe, fv, ⟨G', g, dr, tk', os⟩, _, .ref C, some d, rfl, J, fun b o q => ?_, ge, hoe, ⟨hc, hd⟩, hdat, h1, ?_, rfl, I1.bare, raises_own T.exC T.tyC, q1 d (I1.hok.fresh M.dbig)⟩
    · by_cases hb : b = e
      · have q' : G'.get? b = some o := q
        rw [hb, ge] at q'; cases q'
      · exact (gk b hb).symm.trans q
    · rw [upd_ne (Ne.symm M.dne)]
      exact I1.hok.fresh M.new
/-- raise Low(e) -/
def tRaiseErr (C : Addr) (W : WX) (ta : TA) : TS := fun _ σ H => tMkErr C ta σ H fun cls d H' => W cls d σ H'
theorem ps_raiseErr {a : Expr} {ta : TA} {W : WX} {p pos pos2 : Pos} {k : Nat} (hc : X.calm = true) (T : PySem.ErrX.ErrTxt X.K X.mg nmx C fI) (hr : Room k X.A) (tk : Takes X W) (ha : PA X [a] ta) (hg : Gl X nmx := by rfl)
    (he : starEach (a :: []) X.env = (false, eval a X.env) :: starEach [] X.env := by rfl) (hpl : (backTo pos (starEach [] X.env)).any (·.1) = false := by rfl) (hdb : (nmx == ("__debug__" : Str)) = false := by decide) :
    PS X (.Raise (some (.Call (.Name nmx p) [a] [] pos)) none pos2) (tRaiseErr C W ta) := ps_raise hc tk (pmk_err T hr ha hg he hpl hdb)
/-- low.by, low the exception that the suite holds (at a; its class cls, its dict d) -/
def tPlcErr (C : Addr) (a : Addr) (cls : Value) (d : Option Addr) (te : TE) : TE := fun σ H Q => te σ H fun x H1 => x = .ref a ∧ cls = .ref C ∧ ∃ (dd : Addr) (v : V), d = some dd ∧ H1 dd = some (.xd [(("place" : Str), v)]) ∧ Q v H1
theorem pe_plcErr {a : Addr} {oe : Obj} {cls : Value} {d : Option Addr} {pn : List (Addr × Obj)} {e : Expr} {te : TE} {pos : Pos} (T : PySem.ErrX.ErrTxt X.K X.mg nmx C fI) (hz : Zc cls d oe) (hf : ∃ vs, oe.data = .fields vs) (he : PE (X.suite a ((a, oe) :: pn)) e te)
    (hb : attributeBase e "place" X.env (eval e X.env) = eval e X.env := by rfl) :
    PE (X.suite a ((a, oe) :: pn)) (.Attribute e "place" pos) (tPlcErr C a cls d te) := by
  refine ⟨fun pins s σ H Q I h => ?_⟩
  refine attr_of hb (thn (he.run pins s σ H _ I h) fun u s1 hh => ?_)
  obtain ⟨x, H1, I1, rx, ex, ec, dd, v, ed, ea, q⟩ := hh
  subst ex
  obtain rfl : u = Value.ref a := rx
  subst ec
  subst ed
  obtain ⟨ha, _⟩ := I1.pin (a, oe) (List.mem_append_left _ List.mem_cons_self)
  obtain ⟨vs, hd⟩ := hf
  have hx : ObjOk X.prog X.w H1 s1.heap dd (.xd [(("place" : Str), v)]) := I1.hok dd _ ea
  obtain ⟨mA, hns, hr⟩ := hx
  obtain ⟨od, ho, hl⟩ := lookIn_ns hns
  have l : List.lookup ("place" : Str) [(("place" : Str), v)] = some v := by simp [List.lookup]
  obtain ⟨u, hu, ru⟩ := RelO.some_of (v := v) (o := mA "place") (by rw [← l]; exact hr "place")
  have J : PySem.W.InstAt s1.heap a oe C (some od) := ⟨ha, hz.1, by unfold PySem.W.notCls; rw [hd] <;> rfl, by rw [hz.2]; exact ho⟩
  exact HandSPX.exc_get I1.kIn J T.ga T.gg T.exC (PySem.W.findObj_own T.hdC T.noN rfl (by rw [hl, hu])) (handed_of ru) ⟨v, H1, I1.tok _, ru, q⟩
end
end L2

namespace Vf
open PySem L2 PySem.Spec PyProof.Rows
/-- isinstance(e, c), e the error that the suite holds (at a; its class cls, its own dict d) -/
def rIsP (K : PySem.W.Frag) (D a : Addr) (cls : Value) (d : Option Addr) : List V → Hp → VK → Prop := fun xs H Q => cls = .ref D ∧ ∃ (dd : Addr) (pl c : V) (cv : Value) (b : Bool),
  d = some dd ∧ H dd = some (.xd [(("place" : Str), pl)]) ∧ xs = [.ref a, c] ∧ (∀ u, RelV c u → u = cv) ∧ PySem.W.kitOne K (.ref D) cv = some b ∧ Q (.bl b) H
theorem call_isP {X : Cx} {a D : Addr} {oe : Obj} {cls : Value} {d : Option Addr} {pn : List (Addr × Obj)} (C : ExcC X.K D) (hz : Zc cls d oe) (hf : ∃ vs, oe.data = .fields vs) : CallR (X.suite a ((a, oe) :: pn)) (.builtin "isinstance") (rIsP X.K D a cls d) := by
  intro pins s σ H xs us Q I r h
  obtain ⟨rfl, dd, pl, c, cv, b, rfl, ea, rfl, hcv, e, q⟩ := h
  obtain ⟨u1, u2, rfl, r1, r2⟩ := vals2 r
  cases (show u1 = Value.ref a from r1)
  have e2 := hcv _ r2
  subst e2
  obtain ⟨ha, _⟩ := I.pin (a, oe) (List.mem_append_left _ List.mem_cons_self)
  obtain ⟨vs, hd⟩ := hf
  obtain ⟨mA, hns, _⟩ := (show ObjOk X.prog X.w H s.heap dd (.xd [(("place" : Str), pl)]) from I.hok dd _ ea)
  obtain ⟨od, ho, _⟩ := lookIn_ns hns
  have J : PySem.W.InstAt s.heap a oe D (some od) := ⟨ha, hz.1, by unfold PySem.W.notCls; rw [hd] <;> rfl, by rw [hz.2]; exact ho⟩
  have hcl : (PySem.W.clsIn X.K D).isSome = true := by
    have h1 := C.hd
    unfold PySem.W.hasDictIn at h1
    cases h2 : PySem.W.clsIn X.K D with
    | none => rw [h2] at h1; cases h1
    | some cd => rfl
  exact PySem.W.kia_one (PySem.W.kitx_exc hcl C.hg C.hk C.hs C.ha C.hn C.ht C.hm) I.kIn J e (fun z => nomatch z) fun tk => ⟨.bl b, H, I.kept (t' := tk) fun _ _ z => z, rfl, q⟩
end Vf

namespace Vf
open PySem L2 PySem.Spec PyProof.Rows He
/-! ### the head's facts, and further ones that are yes or no -/
abbrev AlX : Type := AlD × Bool
def obsX (fa : List Fa) (fn : List DefD) (ex : List (PySem.W.Frag → Bool)) (K : PySem.W.Frag) : AlX := (obsD fa fn K, ex.all fun p => p K)
def obsXG (n : Nat) (fa : List Fa) (fn : List DefD) (ex : List (PySem.W.Frag → Bool)) (g : Addr → Option Obj) : AlX := obsX fa fn ex (frG g (asD g n))
def SaysX (fa : List Fa) (fn : List DefD) (ex : List (PySem.W.Frag → Bool)) (K : PySem.W.Frag) : Prop := SaysD fa fn K ∧ (ex.all fun p => p K) = true
def hookX (n : Nat) (fa : List Fa) (fn : List DefD) (ex : List (PySem.W.Frag → Bool)) : PySem.W.Hook where
  α := AlX
  obs := fun s => obsXG n fa fn ex s.heap.get?
  val := fun _ => (valD fn, true)
  says := fun _ h => ∃ K : PySem.W.Frag, K.In h ∧ SaysX fa fn ex K
  of := fun _ _ e => ⟨_, frG_in, congrArg (fun z : AlX => z.1) e, congrArg (fun z : AlX => z.2) e⟩
  keeps := fun _ _ _ ⟨K, hK, c⟩ k => ⟨K, PySem.W.Frag.In.keeps hK k, c⟩
theorem obsXG_eq {n : Nat} {fa : List Fa} {fn : List DefD} {ex : List (PySem.W.Frag → Bool)} {g : Addr → Option Obj} {s : Shared} (h : ∀ a, g a = s.heap.get? a) : obsXG n fa fn ex g = (hookX n fa fn ex).obs s := by
  have e : g = s.heap.get? := funext h
  rw [e] <;> rfl
theorem SaysX.more {fa : List Fa} {fn : List DefD} {ex : List (PySem.W.Frag → Bool)} {K : PySem.W.Frag} (c : SaysX fa fn ex K) (i : Nat) {p : PySem.W.Frag → Bool} (h : ex[i]? = some p := by rfl) : p K = true :=
  List.all_eq_true.mp c.2 p (List.mem_of_getElem? h)
/-! ### an own error, over ValueError through own classes, with __init__ from one of them -/
def errB (K : PySem.W.Frag) (C : Addr) : Bool := match K.lookup C with
  | some ⟨.type "type", _, .cls cd, sl⟩ => (match cd.mro, sl.toList with
    | .ref D :: bm, [_, _, _, _, some (.builtin n), _] => D == C && (n == "ValueError.__new__" && (!cd.hasDel && (cd.hasDict && PySem.HandSPX.refsVE bm)))
    | _, _ => false)
  | _ => false
theorem errB_ok {K : PySem.W.Frag} {C : Addr} (q : errB K C = true) : ∃ nm qn N bs bm sn sub ab col dd k0 k1 k2 k3 k5, K.lookup C = some (excClassObj nm qn C N bs bm true sn sub ab col dd k0 k1 k2 k3 k5 "ValueError.__new__") ∧ PySem.HandSPX.refsVE bm = true := by
  unfold errB at q
  split at q
  · rename_i dd cd sl ho
    split at q
    · rename_i D bm k0 k1 k2 k3 n k5 hm hs
      simp only [Bool.and_eq_true, beq_iff_eq, Bool.not_eq_true'] at q
      obtain ⟨rfl, rfl, hdel, hdi, hv⟩ := q
      obtain ⟨nm, bs, mro, ns, qn, hd, sn, sub, ab, col, del⟩ := cd
      dsimp only at hm hdel hdi
      subst hm hdel hdi
      obtain ⟨l⟩ := sl
      simp only at hs
      subst hs
      exact ⟨nm, qn, ns, bs, bm, sn, sub, ab, col, dd, k0, k1, k2, k3, k5, ho, hv⟩
    · cases q
  · cases q
def errAll (x bx : Str) (K : PySem.W.Frag) : Bool :=
  errB K (ga K x) && (eqO (PySem.W.findIn K (.ref (ga K x)) "__setattr__") (some (some (.builtin "object.__setattr__"))) && (eqO (PySem.W.findIn K (.ref (ga K x)) "__getattribute__") (some (some (.builtin "BaseException.__getattribute__"))) &&
  (eqO (PySem.W.findIn K (.ref (ga K x)) "__getattr__") (some none) && (eqO (PySem.W.findIn K (.ref (ga K x)) "place") (some none) && (eqO (PySem.W.findIn K (.ref (ga K x)) "__init__") (some (some (.ref (ma K (ga K bx) "__init__")))) &&
  (decide (PySem.W.typeIn K (.ref (ma K (ga K bx) "__init__")) = some (.type "function")) && (PySem.W.keepIn K (.ref (ga K x)) && (decide (PySem.W.subIn K (.ref (ga K x)) (.type "BaseException") = some true) && (decide (PySem.W.typeIn K (.ref (ga K x)) = some (.type "type")) &&
  (PySem.W.hasDictIn K (ga K x) && (decide (PySem.W.exmOne K (.ref (ga K x)) (.ref (ga K x)) = some true) && (decide (PySem.W.exmOne K (.ref (ga K x)) (.ref (ga K bx)) = some true) && (eqO (PySem.W.findIn K (.ref (ga K x)) "__class__") (some (some (.builtin "object.__class__"))) &&
  (eqO (PySem.W.specialIn K (.builtin "object.__class__") "__get__") (some (some (.builtin "getset_descriptor.__get__"))) && (decide (PySem.W.takesIn K (.builtin "object.__class__") = some true) && (decide (PySem.W.mroIn K (ga K x) (.type "object") = some true) &&
  (decide (PySem.W.kitOne K (.ref (ga K x)) (.ref (ga K x)) = some true) && (decide (PySem.W.kitOne K (.ref (ga K x)) (.ref (ga K bx)) = some true) && decide (PySem.W.kitOne K (.ref (ga K x)) (.type "ValueError") = some true)))))))))))))))))))
structure ErrAll (K : PySem.W.Frag) (mg : Str → Option Value) (x bx : Str) : Prop where
  er : PySem.ErrX.ErrTxt K mg x (ga K x) (ma K (ga K bx) "__init__")
  gB : mg bx = some (.ref (ga K bx))
  ec : ExcC K (ga K x)
  xb : PySem.W.exmOne K (.ref (ga K x)) (.ref (ga K bx)) = some true
  ii : PySem.W.kitOne K (.ref (ga K x)) (.ref (ga K x)) = some true
  ib : PySem.W.kitOne K (.ref (ga K x)) (.ref (ga K bx)) = some true
  iv : PySem.W.kitOne K (.ref (ga K x)) (.type "ValueError") = some true
theorem errAll_ok {K : PySem.W.Frag} {h : Heap} {mg : Str → Option Value} {x bx : Str} {fd : FuncData} {p1 p2 q1 q2 q3 q4 : Pos} (X : K.In h) (G : h.Ns mainGlobals mg) (c1 : (Fa.glo x).ok K = true) (c2 : (Fa.glo bx).ok K = true) (ce : errAll x bx K = true)
    (F : FunD K "__init__" "FolderkinError.__init__" (PySem.ErrX.iA p1 p2) (PySem.ErrX.iB q1 q2 q3 q4) PySem.ErrX.iS [] [] (ma K (ga K bx) "__init__") fd) : ErrAll K mg x bx := by
  obtain ⟨e1, ce⟩ := ba ce
  obtain ⟨e2, ce⟩ := ba ce
  obtain ⟨e3, ce⟩ := ba ce
  obtain ⟨e4, ce⟩ := ba ce
  obtain ⟨e5, ce⟩ := ba ce
  obtain ⟨e6, ce⟩ := ba ce
  obtain ⟨e7, ce⟩ := ba ce
  obtain ⟨e8, ce⟩ := ba ce
  obtain ⟨e9, ce⟩ := ba ce
  obtain ⟨e10, ce⟩ := ba ce
  obtain ⟨e11, ce⟩ := ba ce
  obtain ⟨e12, ce⟩ := ba ce
  obtain ⟨e13, ce⟩ := ba ce
  obtain ⟨e14, ce⟩ := ba ce
  obtain ⟨e15, ce⟩ := ba ce
  obtain ⟨e16, ce⟩ := ba ce
  obtain ⟨e17, ce⟩ := ba ce
  obtain ⟨e18, ce⟩ := ba ce
  obtain ⟨e19, e20⟩ := ba ce
  obtain ⟨oc, od, dV, kV, doc, pm, an, cdv, ct, osl, rfl, lk, hcd, dfl, _⟩ := F.ex
  have ed : dV = .none := by
    rcases dfl with ⟨_, h⟩ | ⟨h, _⟩
    · exact h
    · exact absurd rfl h
  subst ed
  exact { er := { gC := glo_ok X G c1, cls := errB_ok e1, sa := eqO_ok e2, ga := eqO_ok e3, gg := eqO_ok e4, noN := eqO_ok e5, iC := eqO_ok e6, tC := of_decide_eq_true e7, kC := e8, exC := of_decide_eq_true e9, tyC := of_decide_eq_true e10, hdC := e11, te := of_decide_eq_true e12,
                  fn := ⟨oc, od, kV, doc, pm, an, cdv, ct, osl, p1, p2, q1, q2, q3, q4, lk, hcd⟩ },
          gB := glo_ok X G c2, ec := ⟨eqO_ok e3, eqO_ok e4, of_decide_eq_true e9, e11, eqO_ok e14, eqO_ok e15, of_decide_eq_true e16, of_decide_eq_true e17⟩,
          xb := of_decide_eq_true e13, ii := of_decide_eq_true e18, ib := of_decide_eq_true e19, iv := of_decide_eq_true e20 }
/-! ### calls of a def that may raise -/
structure CalX (P : Program) (w : World) (K : PySem.W.Frag) (mg : Str → Option Value) (base : Heap) (k : Nat) (x : Str) (sp : Sp) : Prop where
  ex : ∃ (f : Addr) (fd : FuncData) (ps : List Str), FnOk P w K mg base (L2.CX P w) k f fd ps sp ∧ mg x = some (.ref f) ∧ PySem.W.keepIn K (.ref f) = true ∧ Binds K fd ps []
theorem pe_cX {X : Cx} {k j : Nat} {x : Str} {sp : Sp} {p pos : Pos} {e : Expr} {es : List Expr} {t : TA} {W : WX} (c : CalX X.prog X.w X.K X.mg X.base k x sp) (hr : Room j X.A) (hk : k ≤ j) (tk : Takes X W) (hg : Gl X x) (ha : PA X (e :: es) t)
    (hdb : (x == ("__debug__" : Str)) = false := by decide) (he : starEach (e :: es) X.env = (false, eval e X.env) :: starEach es X.env := by rfl)
    (hpl : (backTo pos (starEach es X.env)).any (·.1) = false := by rfl) : PE X (.Call (.Name x p) (e :: es) [] pos) (tCallS sp (WE W) t) := by
  obtain ⟨f, fd, ps, F, hm, kp, b⟩ := c.ex
  exact pe_callS F (hr.mono hk) hg hm kp b (fun σ => passAt tk σ) ha hdb he hpl
/-- promises of a def that may raise, by arity -/
abbrev sp1X (R : V → Hp → VK → XK → Prop) : Sp := fun vs H Q E => ∃ a, vs = [a] ∧ R a H Q E
end Vf

namespace Vf
open PySem L2 PySem.Spec PyProof.Rows
/-- x == y, x an instance of a class with its own __eq__ that answers True or False; y one too, or a tuple -/
def rEqO (K : PySem.W.Frag) (C : Addr) (sp : Sp) (E : XK) : R2 := fun x y H Q => ∃ (a b dx : Addr) (fs : List (Str × V)), x = .ref a ∧ y = .ref b ∧ H a = some (.ins C dx fs) ∧
  ((∃ (dy : Addr) (gs : List (Str × V)), H b = some (.ins C dy gs)) ∨ (PySem.W.notFirst K C (.type "tuple") = true ∧ ∃ ys, SqT K H b ys)) ∧ sp [x, y] H (fun z H' => ∃ t, z = .bl t ∧ Q z H') E
theorem op_eqOwn {X : Cx} {CX : CXT} {C f : Addr} {fd : FuncData} {ps : List Str} {sp : Sp} {E : XK} {n : Nat} (F : FnOk X.prog X.w X.K X.mg X.base CX n f fd ps sp)
    (hs : PySem.W.findIn X.K (.ref C) "__eq__" = some (some (.ref f))) (hf : PySem.W.isFn X.K (.ref f) = true) (hb : Binds X.K fd ps []) (hx : Passes CX X E) (hr : Room n X.A) : OpR X (compareOp .Eq) (rEqO X.K C sp E) := by
  intro pins s σ H x y v u Q I rx ry q
  obtain ⟨a, b, dx, fs, rfl, rfl, ha, hy, hsp⟩ := q
  cases rx
  cases ry
  obtain ⟨mA, J, _⟩ := ins_get I.hok ha
  obtain ⟨od, J, _⟩ := J.look
  obtain ⟨m, hF⟩ := I.fr
  have go : ∀ tb : Value, PySem.W.Looks (model X.prog X.w) s.heap (typeOf (.ref b)) tb → PySem.W.notFirst X.K C tb = true → wpAny (model X.prog X.w) X.A (richCompare .Eq (.ref a) (.ref b)) (EP X pins σ Q) X.xe s := fun tb ht hn => by
    refine PySem.W.cmp_K (op := .Eq) (tb := tb) hr.units0 hF I.ok.mod.kin J ht hn hs hf ?_
    have hl := F.len _ _ _ _ hsp
    have r2 : Vals [V.ref a, V.ref b] [Value.ref a, Value.ref b] := .cons rfl (.cons rfl .nil)
    refine wpAny_call (codeAny_mono (F.run X.A X.stack s H ⟨[.ref a, .ref b], []⟩ [.ref a, .ref b] [.ref a, .ref b] _ E hr I.env0 (by
      have := hb s [.ref a, .ref b] I.kIn (by simpa using hl)
      simpa using this) r2 hsp) fun r s' hq => ?_)
    cases r with
    | error e => exact hx pins σ H s e s' I hq
    | ok fl =>
      cases fl with
      | ret w =>
        obtain ⟨z, H', I', rz, t, ez, hQ⟩ := I.after hq
        subst ez
        cases rz
        exact ⟨.bl t, H', I', rfl, hQ⟩
      | next => exact False.elim hq
      | brk => exact False.elim hq
      | cont => exact False.elim hq
  rcases hy with ⟨dy, gs, hy⟩ | ⟨hn, ys, hy⟩
  · obtain ⟨mB, J', _⟩ := ins_get I.hok hy
    obtain ⟨od', J', _⟩ := J'.look
    exact go (.ref C) J'.type (by simp [PySem.W.notFirst])
  · obtain ⟨its, rv, ⟨o, ho, hc, _⟩, _⟩ := I.tuple hy
    exact go (.type "tuple") (fun A Q E s' k z => wpAny_typeOf (T := "tuple") ⟨o, k _ _ ho, hc⟩ z) hn
end Vf

namespace Vf
open PySem L2 PySem.Spec PyProof.Rows He
/-! ### an own class: all yes-or-no facts of it -/
def clsB (x : Str) (K : PySem.W.Frag) : Bool :=
  eqO (PySem.W.findIn K (.ref (ga K x)) "__class__") (some (some (.builtin "object.__class__"))) &&
  (eqO (PySem.W.specialIn K (.builtin "object.__class__") "__get__") (some (some (.builtin "getset_descriptor.__get__"))) && (decide (PySem.W.takesIn K (.builtin "object.__class__") = some true) &&
  (decide (PySem.W.mroIn K (ga K x) (.type "object") = some true) && (decide (PySem.W.kitOne K (.ref (ga K x)) (.ref (ga K x)) = some true) && (decide (PySem.W.kitOne K (.type "tuple") (.ref (ga K x)) = some false) && PySem.W.notFirst K (ga K x) (.type "tuple"))))))
structure ClsT (K : PySem.W.Frag) (x : Str) : Prop where
  ha : PySem.W.findIn K (.ref (ga K x)) "__class__" = some (some (.builtin "object.__class__"))
  hn : PySem.W.specialIn K (.builtin "object.__class__") "__get__" = some (some (.builtin "getset_descriptor.__get__"))
  htk : PySem.W.takesIn K (.builtin "object.__class__") = some true
  hm : PySem.W.mroIn K (ga K x) (.type "object") = some true
  own : PySem.W.kitOne K (.ref (ga K x)) (.ref (ga K x)) = some true
  tup : PySem.W.kitOne K (.type "tuple") (.ref (ga K x)) = some false
  nf : PySem.W.notFirst K (ga K x) (.type "tuple") = true
theorem clsB_ok {x : Str} {K : PySem.W.Frag} (c : clsB x K = true) : ClsT K x := by
  unfold clsB at c
  obtain ⟨c1, c⟩ := ba c
  obtain ⟨c2, c⟩ := ba c
  obtain ⟨c3, c⟩ := ba c
  obtain ⟨c4, c⟩ := ba c
  obtain ⟨c5, c⟩ := ba c
  obtain ⟨c6, c7⟩ := ba c
  exact ⟨eqO_ok c1, eqO_ok c2, of_decide_eq_true c3, of_decide_eq_true c4, of_decide_eq_true c5, of_decide_eq_true c6, c7⟩
/-- == by its own __eq__ -/
def eqB (x : Str) (K : PySem.W.Frag) : Bool := eqO (PySem.W.findIn K (.ref (ga K x)) "__eq__") (some (some (.ref (ma K (ga K x) "__eq__")))) && PySem.W.isFn K (.ref (ma K (ga K x) "__eq__"))
structure EqC (P : Program) (w : World) (K : PySem.W.Frag) (mg : Str → Option Value) (base : Heap) (k : Nat) (x : Str) (sp : Sp) : Prop where
  ex : ∃ (f : Addr) (fd : FuncData) (ps : List Str), FnOk P w K mg base CX0 k f fd ps sp ∧ PySem.W.findIn K (.ref (ga K x)) "__eq__" = some (some (.ref f)) ∧ PySem.W.isFn K (.ref f) = true ∧ Binds K fd ps []
theorem op_eqC {X : Cx} {k j : Nat} {x : Str} {sp : Sp} (c : EqC X.prog X.w X.K X.mg X.base k x sp) (hr : Room j X.A) (hk : k ≤ j) : OpR X (compareOp .Eq) (rEqO X.K (ga X.K x) sp E0) := by
  obtain ⟨f, fd, ps, F, hs, hf, hb⟩ := c.ex
  exact op_eqOwn F hs hf hb pass0 (hr.mono hk)
/-- C(e, .., k = v) -/
structure MakN (P : Program) (w : World) (K : PySem.W.Frag) (mg : Str → Option Value) (base : Heap) (k : Nat) (x : Str) (C : Addr) (sp : Sp) (n : Nat) (ks : List Str) (gV : List V → List V → List V) : Prop where
  ex : ∃ (f : Addr) (fd : FuncData) (ps : List Str) (g : List Value → List Value → List Value), Mk K C f ∧ FnOk P w K mg base CX0 k f fd ps sp ∧ mg x = some (.ref C) ∧ KBn K fd ps (n + 1) ks g gV
theorem pe_mkN {X : Cx} {k j n : Nat} {C : Addr} {x : Str} {sp : Sp} {p pos : Pos} {e : Expr} {es : List Expr} {kws : List Keyword} {ks : List Str} {t tk : TA} {gV : List V → List V → List V} (c : MakN X.prog X.w X.K X.mg X.base k x C sp n ks gV) (hr : Room j X.A) (hk : k + 1 ≤ j) (hg : Gl X x)
    (ha : PA X (e :: es) t) (hkw : PK X kws tk) (hall : (backToKw pos (keywordEach kws X.env)).all (·.1.isSome) = true := by rfl) (hks : (backToKw pos (keywordEach kws X.env)).filterMap (·.1) = ks := by rfl)
    (hdb : (x == ("__debug__" : Str)) = false := by decide) (he : starEach (e :: es) X.env = (false, eval e X.env) :: starEach es X.env := by rfl)
    (hpl : ((backTo pos (starEach (e :: es) X.env)).any (·.1) || (backToKw pos (keywordEach kws X.env)).any (·.1.isNone)) = false := by rfl) :
    PE X (.Call (.Name x p) (e :: es) kws pos) (tMakeN C n ks.length sp gV E0 t tk) := by
  obtain ⟨f, fd, ps, g, M, F, hm, b⟩ := c.ex
  exact pe_makeN M F (hr.mono hk) hg hm b pass0 ha hkw hall hks hdb he hpl
theorem e_tMake {C : Addr} {sp : Sp} {dvs : List V} {E : XK} {t : TA} {σ : L2.St} {H : Hp} {Q : VK} (q : t σ H fun vs H1 => ∀ x dx, H1 x = none → H1 dx = none → dx ≠ x → sp (.ref x :: (vs ++ dvs)) (upd (upd H1 dx (.own x)) x (.ins C dx [])) (fun v H2 => v = .non ∧ Q (.ref x) H2) E) : tMake C sp dvs E t σ H Q := q
theorem e_tMakeN {C : Addr} {n m : Nat} {sp : Sp} {gV : List V → List V → List V} {E : XK} {t tk : TA} {σ : L2.St} {H : Hp} {Q : VK} (q : t σ H fun vs H1 => tk σ H1 fun zs H2 => vs.length = n ∧ zs.length = m ∧
  ∀ x dx, H2 x = none → H2 dx = none → dx ≠ x → sp (gV (.ref x :: vs) zs) (upd (upd H2 dx (.own x)) x (.ins C dx [])) (fun v H3 => v = .non ∧ Q (.ref x) H3) E) : tMakeN C n m sp gV E t tk σ H Q := q
/-! ### == and != of data with any texts -/
def rEqP (K : PySem.W.Frag) : R2 := fun x y H Q => ∃ d e, Dp K H x d ∧ Dp K H y e ∧ d.plain = true ∧ e.plain = true ∧ d.depth ≤ 60 ∧ Q (.bl (PyData.eqv d e)) H
def rNeP (K : PySem.W.Frag) : R2 := fun x y H Q => ∃ d e, Dp K H x d ∧ Dp K H y e ∧ d.plain = true ∧ e.plain = true ∧ d.depth ≤ 60 ∧ Q (.bl (!PyData.eqv d e)) H
theorem op_eqP {X : Cx} (hu : X.A.units + 64 < cLine) : OpR X (compareOp .Eq) (rEqP X.K) := by
  intro pins s σ H x y v u Q I rx ry h
  obtain ⟨d, e, hd, he, sd, se, hp, q⟩ := h
  obtain ⟨as, r1⟩ := Dp.reads I d x v hd rx
  obtain ⟨bs, r2⟩ := Dp.reads I e y u he ry
  exact PySem.SeqAt.eq_plain r1 r2 sd se (by omega) ⟨.bl _, H, I, rfl, q⟩
theorem op_neP {X : Cx} (hu : X.A.units + 64 < cLine) : OpR X (compareOp .NotEq) (rNeP X.K) := by
  intro pins s σ H x y v u Q I rx ry h
  obtain ⟨d, e, hd, he, sd, se, hp, q⟩ := h
  obtain ⟨as, r1⟩ := Dp.reads I d x v hd rx
  obtain ⟨bs, r2⟩ := Dp.reads I e y u he ry
  exact PySem.SeqAt.ne_plain r1 r2 sd se (by omega) ⟨.bl _, H, I, rfl, q⟩
end Vf

namespace Vf
open PySem L2 PySem.Spec PyProof.Rows He
/-! ### t[::-1] of a pair -/
section
variable {prog : Program} {w : World} {A : Around} {E : Value → Shared → Prop} {s : Shared}
theorem rev2_applied {sl : Addr} {u : Tok} {Q : Int × Int × Nat → Shared → Prop} (hs : s.heap.IsSliceOf sl .none .none (.int (-1) u)) (h : Q (1, -1, 2) s) :
    wpAny (model prog w) A (Builtin.Slice.sliceApplied (.ref sl) (pure ((2 : Nat) : Int))) Q E s := by
  obtain ⟨os, hos, hcs, hds⟩ := id hs
  unfold Builtin.Slice.sliceApplied Builtin.Slice.sliceFields
  refine wpAny_bind (wpAny_bind (wpAny_field hos hds (x := .none) rfl (wpAny_bind (wpAny_field hos hds (x := .none) rfl (wpAny_bind (wpAny_field hos hds (x := .int (-1) u) rfl (wpAny_pure ?_)))))))
  refine wpAny_bind (slicePart_int ?_)
  show wpAny _ _ (if ((-1 : Int) == 0) = true then _ else _) _ _ s
  rw [if_neg (by decide)]
  refine wpAny_bind (slicePart_none (wpAny_bind (slicePart_none (wpAny_bind (wpAny_pure ?_)))))
  show wpAny _ _ (match Builtin.Slice.sliceAdjust none none (-1) ((2 : Nat) : Int) with | (lo, hi) => pure (lo, (-1 : Int), Builtin.Slice.slicePlaces lo hi (-1))) _ _ s
  exact wpAny_pure h
theorem getItem_pair_rev {t sl : Addr} {v0 v1 : Value} {u : Tok} {Q : Value → Shared → Prop} (ht : IsTup s.heap t #[v0, v1]) (hs : s.heap.IsSliceOf sl .none .none (.int (-1) u))
    (h : Q (.ref s.heap.objs.size) { s with heap := s.heap.push { cls := .type "tuple", data := .seq #[v1, v0] } }) : wpAny (model prog w) A (getItem (.ref t) (.ref sl)) Q E s := by
  obtain ⟨os, hos, hcs, hds⟩ := id hs
  have hTs : s.TypeIs (.ref sl) "slice" := ⟨os, hos, hcs⟩
  unfold getItem
  try with_reducible refine wpAny_holding ?_
  first | refine wpAny_bind (wpAny_pure ?_) | skip
  refine wpAny_bind (wpAny_sequenceKey ht.typeIs (by decide) ?_)
  refine wpAny_bind (wpAny_callSpecial?_slot (name := Str.ofString "__getitem__") ht.typeIs PyProof.Rows.slot_tuple_getitem
    (wpAny_call_entry PyProof.Rows.slot_tuple_getitem ht.typeIs entry_tuple_getitem ?_ (args_tuple_getitem _ _)))
  show wpAny _ _ (Builtin.Tuple.tupleItemsOf (.ref t) >>= _) _ _ s
  refine wpAny_bind (tupleItemsOf_ ht ?_)
  refine wpAny_bind (wpAny_typeOf hTs ?_)
  rw [if_pos (by decide)]
  refine wpAny_bind (rev2_applied hs ?_)
  show wpAny _ _ (if (((1 : Int)) == 0 && (-1 : Int) == 1 && ((2 : Nat) == 2)) = true then _ else _) _ _ s
  rw [if_neg (by decide)]
  have hz : sizeOk (.seq #[v1, v0]) := by show (2 : Nat) ≤ sizeLine; decide
  first
    | exact wpAny_bind (m := Builtin.Tuple.tupleExact _) (wpAny_newObj_type (wpAny_pure ⟨_, rfl, wpAny_pure h⟩) hz)
    | exact wpAny_bind (m := Builtin.Tuple.tupleExact _) (wpAny_newObj_type (wpAny_bind (wpAny_pure (wpAny_pure ⟨_, rfl, wpAny_pure h⟩))) hz)
    | exact wpAny_bind (wpAny_bind (m := Builtin.Tuple.tupleExact _) (wpAny_newObj_type (wpAny_pure (wpAny_pure ⟨_, rfl, wpAny_pure h⟩)) hz))
    | exact wpAny_bind (wpAny_bind (m := Builtin.Tuple.tupleExact _) (wpAny_newObj_type (wpAny_pure ⟨_, rfl, wpAny_pure h⟩) hz))
end
section
variable {X : Cx}
def tRevT (K : PySem.W.Frag) (te : TE) : TE := fun σ H Q => te σ H fun x H1 => ∃ a u v, x = .ref a ∧ SqT K H1 a [u, v] ∧ ∀ p, H1 p = none → Q (.ref p) (upd H1 p (.tup [v, u]))
theorem pe_revT {e : Expr} {te : TE} {k : Nat} {p1 p2 p3 pos : Pos} (he : PE X e te) : PE X (.Subscript e (.Slice none none (some (.UnaryOp .USub (.Constant (.int 1) k p1) p2)) p3) pos) (tRevT X.K te) := by
  refine ⟨fun pins s σ H Q I h => ?_⟩
  refine Subscript_ (thn (he.run pins s σ H _ I h) fun v s1 ⟨x, H1, I1, r1, q1⟩ => ?_)
  obtain ⟨a, x0, x1, ex, hx, q⟩ := q1
  subst ex
  cases r1
  have hst : PO X (some (.UnaryOp .USub (.Constant (.int 1) k p1) p2)) (tPart (tUn (rU fun i => .int (-i)) (tC (.int 1)))) := po_some (pe_un un_neg pe_int)
  refine wpAny_Slice (thn (po_none.run pins s1 σ H1 (fun o H2 => o = none ∧ H2 = H1) I1 ⟨rfl, rfl⟩) fun vl s2 ⟨l, H2, I2, pl, el, e2⟩ => ?_)
  subst el e2
  refine thn (po_none.run pins s2 σ H2 (fun o H3 => o = none ∧ H3 = H2) I2 ⟨rfl, rfl⟩) fun vu s3 ⟨u, H3, I3, pu, eu, e3⟩ => ?_
  subst eu e3
  refine thn (hst.run pins s3 σ H3 (fun o H4 => o = some (-1) ∧ H4 = H3) I3 ⟨1, rfl, -1, rfl, rfl, rfl⟩) fun vs s4 ⟨o, H4, I4, ps, eo, e4⟩ => ?_
  subst eo e4
  cases pl
  cases pu
  cases ps with
  | int i tk =>
  have I5 : Inv X pins σ H4 { s4 with heap := s4.heap.push { cls := .type "slice", data := .fields #[.none, .none, .int (-1) tk] } } := I4.kept (t' := s4.toks) fun b ob q => Heap.get?_push_of_some _ q
  obtain ⟨its, r, ht, hz⟩ := I5.tuple hx
  obtain ⟨w0, w1, rfl, rv0, rv1⟩ := vals2 r
  show wpAny (model X.prog X.w) X.A (subscriptTail e (.Slice none none (some (.UnaryOp .USub (.Constant (.int 1) k p1) p2)) p3) (.ref a) (.ref s4.heap.objs.size)) (EP X pins σ Q) X.xe { s4 with heap := s4.heap.push { cls := .type "slice", data := .fields #[.none, .none, .int (-1) tk] } }
  refine tail_any (ops := [.ref a, .ref s4.heap.objs.size]) ht.typeIs PyProof.Rows.slot_tuple_getitem.lookup ?_ (by with_unfolding_all rfl)
  refine getItem_pair_rev ht (Heap.IsSliceOf.new _ _ _ _) ?_
  refine ⟨.ref _, _, I5.laid (t' := s4.toks) (o := .tup [x1, x0]) (fun b ob q => Heap.get?_push_of_some _ q) (Nat.le_refl _) ?_, rfl, q _ (I5.hok.fresh (Nat.le_refl _))⟩
  exact ⟨by show (2 : Nat) ≤ sizeLine; decide, _, .cons rv1 (.cons rv0 .nil), IsTup.new _ _⟩
/-! ### del d[t], the keys tuples -/
def sDDelT (td ty : TE) : TS := fun D σ H => td σ H fun x H1 => ty σ H1 fun y H2 => ∃ a kvs k b, x = .ref a ∧ H2 a = some (.dT kvs) ∧ y = .ref b ∧ H2 b = some (.tup (k.map kV)) ∧ (valV kvs k).isSome = true ∧ D.nx σ (upd H2 a (.dT (dropK kvs k)))
theorem ps_ddelT {o i : Expr} {pos tpos : Pos} {td ty : TE} (hu : X.A.units + 1 < cLine) (ho : PE X o td) (hi : PE X i ty) : PS X (.Delete [.Subscript o i tpos] pos) (sDDelT td ty) := by
  refine ⟨fun pins s σ H D I h => ?_⟩
  refine wpAny_Delete (wpAny_deleteEach_cons (wpAny_delete_Subscript (thn (ho.run pins s σ H _ I h) fun u s1 ⟨x, H1, I1, rx, q1⟩ => thn (hi.run pins s1 σ H1 _ I1 q1) fun iv s2 ⟨y, H2, I2, ry, a, kvs, k, b, ex, e, ey, eb, l, q2⟩ => ?_)))
  subst ex ey
  obtain rfl : u = Value.ref a := rx
  obtain rfl : iv = Value.ref b := ry
  obtain ⟨z, hd, xs, rel, dd⟩ := dt_of I2.hok e
  have hz : xs.length ≤ sizeLine := by rw [← Paired.length rel]; exact z
  obtain ⟨v0, ev⟩ := Option.isSome_iff_exists.mp l
  obtain ⟨w', hw, rw'⟩ := RelO.some_of (v := v0) (o := (atKey xs k).map (·.2)) (by rw [← ev]; exact rel.val k)
  obtain ⟨p, hp, hp2⟩ := Option.map_eq_some_iff.mp hw
  refine wpAny_delItem_heap (hsz := hz) (knd := tupleKind (mixKind X.prog X.w)) (tupleKind_room_in1 hu) (key_of I2.hok eb) hd dd hp fun h' dd' hs => ?_
  obtain ⟨q, es, ep, hq, h2, h3, h4, _, h5⟩ := dd'
  have I3 : Inv X pins σ (upd H2 a (.dT (dropK kvs k))) { s2 with heap := h', toks := s2.toks + (tupleKind (mixKind X.prog X.w)).draws k } :=
    d_write I2 (by rw [e]; exact True.intro) hs ⟨q, hq⟩ ⟨Nat.le_trans (dropK_le kvs k) z, hd, _, (DX.KT_drop k rel).keeps (fun c ys ec => (by rw [upd_ne (ne_of ec e (fun z => nomatch z))]; exact ec)), q, es, ep, hq, h2, h3, h4, h5⟩
  exact wpAny_deleteEach_nil ⟨σ, _, I3, q2⟩
end
end Vf

namespace Vf
open PySem L2 PySem.Spec PyProof.Rows He
theorem un65 {k : Nat} {A : Around} (r : Room k A) : A.units + 65 < cLine := by have := r.un; omega
/-! ### d.values() of a dict whose keys are tuples -/
def Itdt (d : Addr) (o : Obj) (kvs : List (List L2.Key × V)) : It :=
  ⟨fun i H => H d = some (.frz o (.dT kvs)) ∧ i < kvs.length, fun i H x H' => H' = H ∧ ∃ k, kvs[i]? = some (k, x), fun i H => H d = some (.frz o (.dT kvs)) ∧ kvs.length ≤ i⟩
theorem frzTV {X : Cx} {pins : List (Addr × Obj)} {σ : L2.St} {H : Hp} {s : Shared} {d : Addr} {o : Obj} {kvs : List (List L2.Key × V)} (I : Inv X pins σ H s) (h : H d = some (.frz o (.dT kvs))) :
    (d == sysModules) = false ∧ ∃ (es : Array DictEntry) (ep : Nat), o.data = .dict es ep ∧ s.heap.DictRaw d es ep ∧ es.size = kvs.length ∧
      ∀ (i : Nat) (k : List L2.Key) (v : V), kvs[i]? = some (k, v) → ∃ hi : i < es.size, RelV v es[i].val := by
  obtain ⟨hd, z, hs, xs, pr, o', es, ep, ho, hx, hdt, he, _⟩ := I.hok d _ h
  rw [hd] at ho
  cases ho
  have l1 : es.size = xs.length := size_of_entries he
  have l2 : kvs.length = xs.length := Paired.length pr
  refine ⟨hs, es, ep, hdt, ⟨o, hd, hx, hdt⟩, by omega, fun i k v e => ?_⟩
  obtain ⟨b, hb, e1, e2, e3⟩ := L2.paired_get pr e
  have q := entry_at he i
  rw [hb] at q
  obtain ⟨hi, q2⟩ := Array.getElem?_eq_some_iff.mp q
  exact ⟨hi, by rw [q2]; exact e3⟩
section
variable {P : Program} {w : World} {K : PySem.W.Frag} {tg : Expr} {d : Addr} {o : Obj} {es : Array DictEntry} {ep : Nat}
theorem turn_valsT {kvs : List (List L2.Key × V)} (it : Addr) (hod : o.data = .dict es ep) (hz : es.size = kvs.length) : Turn P w K tg (Itdt d o kvs) [it] it (fun i h => h.IsValIter it d i es.size ep) where
  mem := by simp
  obj := fun i h st b hb => by
    have e : b = it := by simpa using hb
    subst e
    obtain ⟨oi, e, c, dd⟩ := st
    exact ⟨oi, e, fun v z => by rw [dd] at z; cases z⟩
  keep := fun i h h' st k => st.at fun oi e => k it (by simp) oi e
  item := by
    intro X hP hw hK hc i pins s σ H E I hf st hg
    subst hP hw hK
    obtain ⟨hd, hi⟩ := hg
    obtain ⟨f0, f1, f2, f3, f4, f5⟩ := hf it (by simp)
    obtain ⟨hs, es', ep', hdt, hm, hsz, ent⟩ := frzTV I hd
    obtain ⟨rfl, rfl⟩ := dict_ep hod hdt
    obtain ⟨⟨k, v⟩, hkv⟩ : ∃ p, kvs[i]? = some p := ⟨kvs[i], List.getElem?_eq_getElem hi⟩
    obtain ⟨hi2, ru⟩ := ent i k v hkv
    refine PySem.wpAny_pyNext_values_item_raw st hm hi2 fun h' st' sb => ?_
    have I1 : Inv X pins σ H { s with heap := h' } := I.turned (t' := s.toks) (fun b ob hb e => (sb.2 b hb).trans e) f0 f1 f3 f4 f5
    obtain ⟨oi, e, c, dd⟩ := id st'
    exact ⟨_, rfl, go_of (s := { s with heap := h' }) e c dd (by decide) ⟨v, H, I1, ru, ⟨rfl, k, hkv⟩, st', fun b hb => (hf b hb).1⟩⟩
  done := by
    intro X hP hw hK hc i pins s σ H E I hf st hg
    subst hP hw hK
    obtain ⟨hd, hi⟩ := hg
    obtain ⟨f0, f1, f2, f3, f4, f5⟩ := hf it (by simp)
    obtain ⟨hs, es', ep', hdt, hm, hsz, ent⟩ := frzTV I hd
    obtain ⟨rfl, rfl⟩ := dict_ep hod hdt
    exact PySem.wpAny_pyNext_values_end_raw (I.ok.hd hc) st hm (by omega) fun h' eb => ⟨rfl, I.turned (t' := s.toks) (fun b ob hb e => eb b ob hb e) f0 f1 f3 f4 f5⟩
  self := fun A i s Q E st h => wpAny_pyIter_valiter st h
end
section
variable {X : Cx} {tg e : Expr} {td : TE} {apos cpos : Pos}
def iValsT (td : TE) : TI := fun σ H R => td σ H fun x H1 => ∃ d o kvs, x = .ref d ∧ H1 d = some (.frz o (.dT kvs)) ∧ R (Itdt d o kvs) H1
theorem pi_valuesT (he : PE X e td) (hbase : attributeBase e "values" X.env (eval e X.env) = eval e X.env := by rfl) (hline : (apos.endLine == cpos.line) = true := by rfl) : PI X tg (.Call (.Attribute e "values" apos) [] [] cpos) (iValsT td) := by
  refine ⟨fun pins s σ H R I h => ?_⟩
  refine wpAny_Call_method (T := "dict") (id := "dict.values") hbase rfl hline F.plainAttrs_dict F.slot_dict_values F.type_dict_values (thn (he.run pins s σ H _ I h) fun u s1 ⟨x, H1, I1, rx, d, o, kvs, ex, hd, q⟩ => ?_)
  subst ex
  obtain rfl : u = Value.ref d := rx
  obtain ⟨hs, es, ep, hdt, hm, hsz, ent⟩ := frzTV I1 hd
  have hnd : ∃ o, s1.heap.get? d = some o ∧ o.ExactDict := by
    obtain ⟨hd2, z, hs2, xs, pr, o', es', ep', ho, hx, _⟩ := I1.hok d _ hd
    exact ⟨o', ho, hx⟩
  obtain ⟨od, hod, hxd⟩ := hnd
  refine ⟨hm.typeIs, fun a ha => (by cases ha; exact ⟨od, hod, hxd.2.1⟩), ?_⟩
  have I2 : Inv X pins σ H1 { s1 with heap := s1.heap.push { cls := .type "dict_values", data := .fields #[.ref d] } } := I1.kept (t' := s1.toks) fun b ob q => Heap.get?_push_of_some _ q
  have fin : wpAny (model X.prog X.w) X.A (pyIter (.ref s1.heap.objs.size)) (PIE X pins σ tg R) X.xe { s1 with heap := s1.heap.push { cls := .type "dict_values", data := .fields #[.ref d] } } := by
    refine PySem.wpAny_pyIter_values_raw (d := d) (es := es) (ep := ep) ⟨_, Heap.get?_push_size _ rfl, rfl, rfl⟩ (hm.at fun _ e => Heap.get?_push_of_some _ e) (pi_one (tk := s1.toks) I2 _ (turn_valsT _ hdt hsz) ⟨_, Heap.get?_push_size _ rfl, rfl, ?_⟩ q)
    rfl
  show wpAny _ _ (callWith cpos (.builtin "dict.values") [.ref d] [] []) _ X.xe s1
  exact method_meetsIn F.slot_dict_values F.entry_dict_values rfl (PySem.evalArgs_none ⟨rfl, hm.typeIs, F.args_dict_values_1 _, _, PySem.meets_dict_values_raw d hs, ⟨es, ep, hm⟩, fin⟩)
theorem walk_valsT {kvs : List (List L2.Key × V)} {d : Addr} {o : Obj} : Walk (Itdt d o kvs) kvs.length (fun H => H d = some (.frz o (.dT kvs))) (fun i H x H' => H' = H ∧ ∃ k, kvs[i]? = some (k, x)) :=
  ⟨fun _ _ hi q => ⟨q, hi⟩, fun _ q => ⟨q, Nat.le_refl _⟩, fun _ _ _ _ _ _ y => y⟩
end
end Vf

namespace Vf
open PySem L2 PySem.Spec PyProof.Rows He
/-- a name that the top imports -/
def bfB (x : Str) (id : String) (K : PySem.W.Frag) : Bool := eqO (PySem.W.nsIn K mainGlobals x) (some (some (.builtin id)))
theorem bfB_ok {K : PySem.W.Frag} {h : Heap} {mg : Str → Option Value} (X : K.In h) (G : h.Ns mainGlobals mg) {x : Str} {id : String} (c : bfB x id K = true) : mg x = some (.builtin id) := PySem.W.mg_of X G (eqO_ok c)
/-- s.index(y), y found -/
theorem mt_idxS {X : Cx} : MtR X "str.index" (fun x xs H Q => ∃ (a b : Str) (k : Nat), x = .str a ∧ xs = [.str b] ∧ Txt.index0 a b = some k ∧ Q (.int (k : Nat)) H) := by
  intro pins s σ H x xs v us Q I rx rs h
  obtain ⟨a, b, k, rfl, rfl, hy, hq⟩ := h
  obtain ⟨t, rfl⟩ := rx
  cases rs with
  | cons r1 rs =>
    cases rs
    obtain ⟨u, rfl⟩ := r1
    cases q : Builtin.Str.occurrences a b 0 a.length 1 with
    | nil =>
      unfold Txt.index0 at hy
      rw [q] at hy
      cases hy
    | cons k' rest =>
      unfold Txt.index0 at hy
      rw [q] at hy
      cases hy
      exact PySem.SC.index q ⟨.int (k : Nat), H, I.tok _, ⟨_, rfl⟩, hq⟩
/-- reversed(range(a, b, c)) -/
def PRg3 (X : Cx) (e : Expr) (t : L2.St → Hp → (Int → Int → Int → Nat → Hp → Prop) → Prop) : Prop :=
  ∀ (pins : List (Addr × Obj)) (s : Shared) (σ : L2.St) (H : Hp) (Q : Int → Int → Int → Nat → Hp → Prop), Inv X pins σ H s → t σ H Q →
    wpAny (model X.prog X.w) X.A (eval e X.env) (fun x s' => ∃ r a b c n t u v H', x = .ref r ∧ IsRange s'.heap r a b c t u v ∧ Builtin.Range.handS_smallRev a b c = true ∧ Builtin.Range.rangeSize a b c = (n : Nat) ∧ Inv X pins σ H' s' ∧ Q a b c n H') X.xe s
def tRg3 (ta : TA) : L2.St → Hp → (Int → Int → Int → Nat → Hp → Prop) → Prop := fun σ H Q => ta σ H fun vs H1 => ∃ i j k n, vs = [.int i, .int j, .int k] ∧ RgC i j k n ∧ Builtin.Range.handS_smallRev i j k = true ∧ Q i j k n H1
theorem prg_3 {X : Cx} {a b c : Expr} {ta : TA} {p pos : Pos} (hg : Gl X "range") (hm : X.mg "range" = none) (ha : PA X [a, b, c] ta)
    (hs : starEach [a, b, c] X.env = (false, eval a X.env) :: starEach [b, c] X.env := by rfl) (hpl : (backTo pos (starEach [b, c] X.env)).any (·.1) = false := by rfl) : PRg3 X (.Call (.Name "range" p) [a, b, c] [] pos) (tRg3 ta) := by
  intro pins s σ H Q I h
  refine Call_ (ld_blt I hg hm boot_range (PyProof.Rows.callWith_type1 (thn (ha.run pos pins s σ H _ I h) fun us s1 ⟨vs, H1, I1, r1, q1⟩ => ?_) hs hpl))
  obtain ⟨i, j, k, n, e, ⟨c0, c1, c2, c3⟩, hr, q⟩ := q1
  subst e
  cases r1 with
  | cons r rr =>
    cases rr with
    | cons r' rr =>
      cases rr with
      | cons r'' rr =>
        cases rr
        obtain ⟨t, rfl⟩ := r
        obtain ⟨t', rfl⟩ := r'
        obtain ⟨t'', rfl⟩ := r''
        exact call_range_3 c0 ⟨_, i, j, k, n, _, _, _, H1, rfl, IsRange.new .., hr, c3, I1.kept fun b u e => Heap.get?_push_of_some _ e, q⟩ (.inl (PyProof.noPylong_small c1))
def iRevR3 (tr : L2.St → Hp → (Int → Int → Int → Nat → Hp → Prop) → Prop) : TI := fun σ H R => tr σ H fun a _ c n H1 => R (Itc (a + ((n : Int) - 1) * c) (-c) n) H1
theorem pi_revR3 {X : Cx} {tg e : Expr} {tr : L2.St → Hp → (Int → Int → Int → Nat → Hp → Prop) → Prop} {p pos : Pos} (hg : Gl X "reversed") (hm : X.mg "reversed" = none) (he : PRg3 X e tr) (hs : starEach [e] X.env = (false, eval e X.env) :: starEach [] X.env := by rfl) :
    PI X tg (.Call (.Name "reversed" p) [e] [] pos) (iRevR3 tr) := by
  refine ⟨fun pins s σ H R I h => ?_⟩
  refine Call_ (ld_blt I hg hm PyProof.Rows.boot_reversed (PyProof.Rows.callWith_type1 (args_cons (thn (he pins s σ H _ I h) fun u s1 hx => args_nil ?_) hs) hs rfl))
  obtain ⟨r, a, b, c, n, t, w1, v, H1, eu, hr, hsm, hn, I1, q⟩ := hx
  subst eu
  refine call_reversed_range hr hsm (wpAny_pyIter_rangeiter (Heap.get?_push_size _ rfl) ?_)
  refine pi_one (tk := s1.toks) I1 _ (turn_rangeC _ (a + ((n : Int) - 1) * c) (-c) n) ?_ q
  have e1 : a + ((n : Int) - 1) * c + ((0 : Nat) : Int) * (-c) = a + (Builtin.Range.rangeSize a b c - 1) * c := by
    rw [hn]
    show _ + (0 : Int) * (-c) = _
    rw [Int.zero_mul, Int.add_zero]
  have e2 : (n : Int) - ((0 : Nat) : Int) = Builtin.Range.rangeSize a b c := by rw [hn]; omega
  show IsRangeIter _ _ (a + ((n : Int) - 1) * c + ((0 : Nat) : Int) * (-c)) ((n : Int) - ((0 : Nat) : Int)) (-c)
  rw [e1, e2]
  exact Heap.get?_push_size _ rfl
theorem pi_tupK {X : Cx} {tg e : Expr} {te : TE} (K : PySem.W.Frag) (h : PE X e te) (hK : X.K = K := by rfl) : PI X tg e (iTup K te) := hK ▸ pi_tup h
theorem pi_listK {X : Cx} {tg e : Expr} {te : TE} (K : PySem.W.Frag) (h : PE X e te) (hK : X.K = K := by rfl) : PI X tg e (iList K te) := hK ▸ pi_list h
end Vf

namespace Vf
open PySem L2 PySem.Spec PyProof.Rows
/-! ### max(xs, key=f): xs a list of references, f an own def whose answers are data of one form -/
theorem run_in {X : Cx} {k : Nat} {f : Addr} {fd : FuncData} {ps : List Str} {sp : Sp} (F : FnOk X.prog X.w X.K X.mg X.base CX0 k f fd ps sp) (hb : Binds X.K fd ps []) {B : Around} (hr : Room k B) (hB : B.frames = X.A.frames)
    {pins : List (Addr × Obj)} {σ : L2.St} {H : Hp} {s : Shared} (I : Inv X pins σ H s) {vs : List V} {us : List Value} (r : Vals vs us) {Q : VK} (h : sp vs H Q E0) {T E : Value → Shared → Prop}
    (hT : ∀ u s', EP X pins σ Q u s' → T u s') : wpAny (model X.prog X.w) B (call (.ref f) us) T E s := by
  have hl : us.length = ps.length := by rw [← r.length]; exact F.len _ _ _ _ h
  have e0 : Env0 X.prog X.w X.K X.mg X.base B X.stack s H := by
    have e := I.env0
    exact ⟨hB.trans e.frames, e.mod, e.bs, e.bsz, e.funs, e.frf, e.hok, e.bare⟩
  have b0 := hb s us I.kIn (by rw [List.append_nil]; exact hl)
  rw [List.append_nil] at b0
  refine wpAny_call (codeAny_mono (F.run B X.stack s H ⟨us, []⟩ us vs Q E0 hr e0 b0 r h) fun r s' hq => ?_)
  cases r with
  | error e => exact False.elim hq
  | ok fl =>
    cases fl with
    | ret u => exact hT u s' (I.after hq)
    | next => exact False.elim hq
    | brk => exact False.elim hq
    | cont => exact False.elim hq
structure MxK (K : PySem.W.Frag) (sp : Sp) (a : Addr) (ps : List Addr) (kd : Nat → PyData) (J : Hp → Prop) : Prop where
  lst : ∀ H, J H → SqL K H a (ps.map V.ref)
  turn : ∀ i p H, ps[i]? = some p → J H → sp [.ref p] H (fun y H' => J H' ∧ (∀ z d, Dp K H z d → Dp K H' z d) ∧ Dp K H' y (kd i)) E0
  alk : ∀ i j, i < ps.length → j < ps.length → PySem.W.alike (kd i) (kd j) = true
  nn : ∀ i, i < ps.length → kd i ≠ .none
  dep : ∀ i, i < ps.length → (kd i).depth ≤ 60
abbrev mxB (kd : Nat → PyData) (i j : Nat) : Bool := PySem.W.dataLt (kd j) (kd i)
theorem argBest_lt (bt : Nat → Nat → Bool) : ∀ j, argBest bt j ≤ j
  | 0 => Nat.le_refl _
  | j + 1 => by
    have ih := argBest_lt bt j
    show (if bt (j + 1) (argBest bt j) = true then j + 1 else argBest bt j) ≤ j + 1
    split <;> omega
def mxS (v : Value) (kb : Value) (c : Nat) : Obj := { cls := .type "list", dict := none, data := .seq #[v, kb] c, slots := #[] }
structure MxSt (X : Cx) (pins : List (Addr × Obj)) (σ : L2.St) (a : Addr) (ps : List Addr) (kd : Nat → PyData) (J : Hp → Prop) (S it : Addr) (j : Nat) (s : Shared) : Prop where
  ex : ∃ (H : Hp) (y : V) (kb : Value) (c : Nat) (p : Addr), Inv X pins σ H s ∧ J H ∧ RelV y kb ∧ Dp X.K H y (kd (argBest (mxB kd) j)) ∧ ps[argBest (mxB kd) j]? = some p ∧ (FpOk X pins H S ∧ FpOk X pins H it) ∧ S ≠ it ∧
    s.heap.get? S = some (mxS (.ref p) kb c) ∧ s.heap.IsListIter it a (j + 1)
section
variable {X : Cx} {k : Nat} {f a : Addr} {fd : FuncData} {nm : List Str} {sp : Sp} {pins : List (Addr × Obj)} {σ : L2.St} {ps : List Addr} {kd : Nat → PyData} {J : Hp → Prop} {S it : Addr} {R : Result → Shared → Prop}
theorem fp_at {H H' : Hp} {b : Addr} (h : FpOk X pins H b) (n : H' b = none) : FpOk X pins H' b := ⟨n, h.2⟩
theorem iter_nocell {h : Heap} {it a : Addr} {i : Nat} (st : h.IsListIter it a i) : ∃ o, h.get? it = some o ∧ ∀ v, o.data ≠ .cell v := by
  obtain ⟨o, e, c, d⟩ := st
  exact ⟨o, e, fun v z => by rw [d] at z; cases z⟩
/-- f at the item, S and the iterator held -/
theorem mx_turn (F : FnOk X.prog X.w X.K X.mg X.base CX0 k f fd nm sp) (hb : Binds X.K fd nm []) (hr : Room (k + 1) X.A) (M : MxK X.K sp a ps kd J) {H : Hp} {s : Shared} {i m : Nat} {p : Addr} {o : Obj} (hp : ps[i]? = some p) (I : Inv X pins σ H s) (hJ : J H)
    (fS : FpOk X pins H S) (fI : FpOk X pins H it) (hS : s.heap.get? S = some o) (hoc : ∀ v, o.data ≠ .cell v) (st : s.heap.IsListIter it a m) {T E : Value → Shared → Prop}
    (hT : ∀ u s' H' y, Inv X pins σ H' s' → J H' → RelV y u → Dp X.K H' y (kd i) → (∀ z d, Dp X.K H z d → Dp X.K H' z d) → FpOk X pins H' S → FpOk X pins H' it → s'.heap.get? S = some o → s'.heap.IsListIter it a m → T u s') :
    wpAny (model X.prog X.w) X.A.in1 (call (.ref f) [.ref p]) T E s := by
  have I' : Inv X (pins ++ pinsAt [S, it] s.heap) σ H s := I.pinned (fp := [S, it]) (fun b hb' => by
      rcases List.mem_cons.mp hb' with e | hb'
      · rw [e]; exact fS
      · rw [List.mem_singleton.mp hb']; exact fI) (fun b hb' => by
      rcases List.mem_cons.mp hb' with e | hb'
      · rw [e]; exact ⟨o, hS, hoc⟩
      · rw [List.mem_singleton.mp hb']; exact iter_nocell st)
  refine run_in F hb hr.in1 rfl I' (vs := [.ref p]) (.cons rfl .nil) (M.turn i p H hp hJ) fun u s' q => ?_
  obtain ⟨y, H', I2, ry, j2, dk, dy⟩ := q
  obtain ⟨oi, hi, ci⟩ := iter_nocell st
  have pS := I2.pin (S, o) (List.mem_append_right _ (List.mem_append_right _ (mem_pinsAt (by simp) hS)))
  have pI := I2.pin (it, oi) (List.mem_append_right _ (List.mem_append_right _ (mem_pinsAt (by simp) hi)))
  refine hT u s' H' y I2.unpinned j2 ry dy dk (fp_at fS pS.2.1) (fp_at fI pI.2.1) pS.1 (st.at fun o' e => ?_)
  rw [hi] at e
  cases e
  exact pI.1
theorem mx_loop (F : FnOk X.prog X.w X.K X.mg X.base CX0 k f fd nm sp) (hb : Binds X.K fd nm []) (hr : Room (k + 1) X.A) (M : MxK X.K sp a ps kd J) (kw : List (Str × Value)) :
    ∀ (m j : Nat) (s : Shared), ps.length - (j + 1) = m → j + 1 ≤ ps.length → MxSt X pins σ a ps kd J S it j s →
    (∀ (H' : Hp) (s' : Shared) (p : Addr), Inv X pins σ H' s' → J H' → ps[argBest (mxB kd) (ps.length - 1)]? = some p → R (.ok (.ret (.ref p))) s') → codeAny (model X.prog X.w) X.A (.builtin "max.loop" ⟨[.ref it, .ref f, .ref S], kw⟩) R s := by
  have hname : (toString "max" ++ toString ".loop" : String) = "max.loop" := by decide
  intro m
  induction m with
  | zero =>
    intro j s hm hj ⟨H, y, kb, c, p, I, hJ, ry, dy, hp, ⟨fS, fI⟩, ne, hS, st⟩ hR
    obtain ⟨its, rv, pl, hz⟩ := I.list (M.lst H hJ)
    have hl := rv.length
    rw [List.length_map] at hl
    refine codeAny_builtin PySem.F.entry_max_loop ?_
    rw [Around.under_plainId PySem.F.plain_max_loop _]
    show wpAny _ X.A.in1 (seqItems? (.ref S) >>= _) _ _ s
    refine wpAny_bind (wpAny_seqItems hS rfl ?_)
    refine wpAny_bind (wpAny_tryCatch ?_)
    refine wpAny_pyNext_list_end hr.hd st pl.isList (by simp; omega) fun h' eb => ?_
    have I1 : Inv X pins σ H { s with heap := h' } := I.turned (t' := s.toks) (fun b o hb e => eb b o hb e) fI.1 fI.2.1 fI.2.2.2.1 fI.2.2.2.2.1 fI.2.2.2.2.2
    have hS' : ({ s with heap := h' } : Shared).heap.get? S = some (mxS (.ref p) kb c) := eb S _ ne hS
    show wpAny _ X.A.in1 (updateSeq S (fun _ => #[]) >>= _) _ _ _
    refine wpAny_bind (wpAny_updateSeq hS' rfl (wpAny_bind (wpAny_letGo (wpAny_pure ?_))))
    have I2 := I1.turned (it := S) (t' := s.toks) (h' := h'.update S (Obj.mapSeq fun _ => #[])) (fun b o hb e => (Heap.get?_update_other _ _ (Ne.symm hb)).trans e) fS.1 fS.2.1 fS.2.2.2.1 fS.2.2.2.2.1 fS.2.2.2.2.2
    refine hR H _ p I2 hJ ?_
    rw [show ps.length - 1 = j from by omega]
    exact hp
  | succ m ih =>
    intro j s hm hj ⟨H, y, kb, c, p, I, hJ, ry, dy, hp, ⟨fS, fI⟩, ne, hS, st⟩ hR
    obtain ⟨its, rv, pl, hz⟩ := I.list (M.lst H hJ)
    have hlt : j + 1 < ps.length := by omega
    have hx : ps[j + 1]? = some ps[j + 1] := List.getElem?_eq_getElem hlt
    obtain ⟨u, hu, ru⟩ := rv.get (i := j + 1) (x := .ref ps[j + 1]) (by rw [List.getElem?_map, hx]; rfl)
    cases ru
    generalize ps[j + 1] = q at hx hu
    refine codeAny_builtin PySem.F.entry_max_loop ?_
    rw [Around.under_plainId PySem.F.plain_max_loop _]
    show wpAny _ X.A.in1 (seqItems? (.ref S) >>= _) _ _ s
    refine wpAny_bind (wpAny_seqItems hS rfl ?_)
    refine wpAny_bind (wpAny_tryCatch ?_)
    refine wpAny_pyNext_list_item st pl.isList (x := .ref q) (by simpa using hu) fun h' st' sb => ?_
    have I1 : Inv X pins σ H { s with heap := h' } := I.turned (t' := s.toks) (fun b o hb e => (sb.2 b hb).trans e) fI.1 fI.2.1 fI.2.2.2.1 fI.2.2.2.2.1 fI.2.2.2.2.2
    have hS' : ({ s with heap := h' } : Shared).heap.get? S = some (mxS (.ref p) kb c) := (sb.2 S ne).trans hS
    refine wpAny_bind (wpAny_tryCatch (wpAny_holding (mx_turn F hb hr M hx I1 hJ fS fI hS' (fun v z => nomatch z) st' fun kx s2 H2 y2 I2 j2 ry2 dy2 dk fS2 fI2 hS2 st2 => ?_)))
    have dy3 := dk _ _ dy
    have hbl := argBest_lt (mxB kd) j
    obtain ⟨as1, r1⟩ := Dp.reads I2 _ _ _ dy2 ry2
    obtain ⟨as2, r2⟩ := Dp.reads I2 _ _ _ dy3 ry
    refine wpAny_bind (wpAny_tryCatch (wpAny_holding (wpAny_bind (PySem.W.gt_data r1 r2 (M.alk _ _ hlt (by omega)) (M.nn _ hlt) (by
      have h1 := Nat.min_le_left (kd (j + 1)).depth (kd (argBest (mxB kd) j)).depth
      have h2 := M.dep _ hlt
      have h3 := hr.un
      show X.A.units + 1 + _ < _
      omega) ?_))))
    refine wpAny_bind (wpAny_holding (wpAny_truthy_bool ?_))
    refine wpAny_bind (wpAny_letGo (wpAny_pure ?_))
    have eB : argBest (mxB kd) (j + 1) = if PySem.W.dataLt (kd (argBest (mxB kd) j)) (kd (j + 1)) = true then j + 1 else argBest (mxB kd) j := rfl
    cases hcmp : PySem.W.dataLt (kd (argBest (mxB kd) j)) (kd (j + 1)) with
    | true =>
      rw [hcmp, if_pos rfl] at eB
      simp only [if_true]
      refine wpAny_bind (wpAny_updateSeq hS2 rfl (wpAny_bind (wpAny_letGo ?_)))
      rw [hname]
      refine wpAny_pure ⟨plainId_quiet PySem.F.plain_max_loop _, ih (j + 1) _ (by omega) hlt ⟨H2, y2, kx, c, q, ?_, j2, ry2, by rw [eB]; exact dy2, by rw [eB]; exact hx, ⟨fS2, fI2⟩, ne, ?_, st2.at fun o e => ?_⟩ hR⟩
      · exact I2.turned (it := S) (t' := s2.toks) (fun b o hb e => (Heap.get?_update_other _ _ (Ne.symm hb)).trans e) fS2.1 fS2.2.1 fS2.2.2.2.1 fS2.2.2.2.2.1 fS2.2.2.2.2.2
      · exact Heap.get?_update_self _ hS2 rfl
      · exact (Heap.get?_update_other _ _ ne).trans e
    | false =>
      rw [hcmp, if_neg Bool.false_ne_true] at eB
      simp only [Bool.false_eq_true, if_false]
      refine wpAny_bind (wpAny_letGo ?_)
      rw [hname]
      exact wpAny_pure ⟨plainId_quiet PySem.F.plain_max_loop _, ih (j + 1) _ (by omega) hlt ⟨H2, y, kb, c, p, I2, j2, ry, by rw [eB]; exact dy3, by rw [eB]; exact hp, ⟨fS2, fI2⟩, ne, hS2, st2⟩ hR⟩
end
section
variable {X : Cx} {k : Nat} {f a : Addr} {fd : FuncData} {nm : List Str} {sp : Sp} {pins : List (Addr × Obj)} {σ : L2.St} {ps : List Addr} {kd : Nat → PyData} {J : Hp → Prop}
theorem mx_start (F : FnOk X.prog X.w X.K X.mg X.base CX0 k f fd nm sp) (hb : Binds X.K fd nm []) (hr : Room (k + 1) X.A) (M : MxK X.K sp a ps kd J) {S it : Addr} {R : Result → Shared → Prop} (kw : List (Str × Value)) (hn : 0 < ps.length) {H : Hp} {s : Shared} {c : Nat} (I : Inv X pins σ H s) (hJ : J H)
    (fS : FpOk X pins H S) (fI : FpOk X pins H it) (ne : S ≠ it) (hS : s.heap.get? S = some { cls := .type "list", dict := none, data := .seq #[] c, slots := #[] }) (st : s.heap.IsListIter it a 0)
    (hR : ∀ (H' : Hp) (s' : Shared) (p : Addr), Inv X pins σ H' s' → J H' → ps[argBest (mxB kd) (ps.length - 1)]? = some p → R (.ok (.ret (.ref p))) s') : codeAny (model X.prog X.w) X.A (.builtin "max.loop" ⟨[.ref it, .ref f, .ref S], kw⟩) R s := by
  have hname : (toString "max" ++ toString ".loop" : String) = "max.loop" := by decide
  obtain ⟨its, rv, pl, hz⟩ := I.list (M.lst H hJ)
  have hx : ps[0]? = some ps[0] := List.getElem?_eq_getElem hn
  obtain ⟨u, hu, ru⟩ := rv.get (i := 0) (x := .ref ps[0]) (by rw [List.getElem?_map, hx]; rfl)
  cases ru
  generalize ps[0] = q at hx hu
  refine codeAny_builtin PySem.F.entry_max_loop ?_
  rw [Around.under_plainId PySem.F.plain_max_loop _]
  show wpAny _ X.A.in1 (seqItems? (.ref S) >>= _) _ _ s
  refine wpAny_bind (wpAny_seqItems hS rfl ?_)
  refine wpAny_bind (wpAny_tryCatch ?_)
  refine wpAny_pyNext_list_item st pl.isList (x := .ref q) (by simpa using hu) fun h' st' sb => ?_
  have I1 : Inv X pins σ H { s with heap := h' } := I.turned (t' := s.toks) (fun b o hb e => (sb.2 b hb).trans e) fI.1 fI.2.1 fI.2.2.2.1 fI.2.2.2.2.1 fI.2.2.2.2.2
  have hS' : ({ s with heap := h' } : Shared).heap.get? S = some { cls := .type "list", dict := none, data := .seq #[] c, slots := #[] } := (sb.2 S ne).trans hS
  refine wpAny_bind (wpAny_tryCatch (wpAny_holding (mx_turn F hb hr M hx I1 hJ fS fI hS' (fun v z => nomatch z) st' fun kx s2 H2 y2 I2 j2 ry2 dy2 dk fS2 fI2 hS2 st2 => ?_)))
  refine wpAny_bind (wpAny_updateSeq hS2 rfl ?_)
  rw [hname]
  refine wpAny_pure ⟨plainId_quiet PySem.F.plain_max_loop _, mx_loop F hb hr M kw _ 0 _ rfl hn ⟨H2, y2, kx, c + 1, q, ?_, j2, ry2, dy2, hx, ⟨fS2, fI2⟩, ne, ?_, st2.at fun o e => ?_⟩ hR⟩
  · exact I2.turned (it := S) (t' := s2.toks) (fun b o hb e => (Heap.get?_update_other _ _ (Ne.symm hb)).trans e) fS2.1 fS2.2.1 fS2.2.2.2.1 fS2.2.2.2.2.1 fS2.2.2.2.2.2
  · exact Heap.get?_update_self _ hS2 rfl
  · exact (Heap.get?_update_other _ _ ne).trans e
/-- the best of a row, the first of equals -/
abbrev mxI (kd : Nat → PyData) (n : Nat) : Nat := argBest (mxB kd) (n - 1)
def rMaxF (K : PySem.W.Frag) (sp : Sp) : List V → Hp → VK → Prop := fun vs H Q => ∃ (a : Addr) (ps : List Addr) (kd : Nat → PyData) (J : Hp → Prop), vs = [.ref a] ∧ 0 < ps.length ∧ J H ∧ MxK K sp a ps kd J ∧
  ∀ H' p, J H' → ps[mxI kd ps.length]? = some p → Q (.ref p) H'
theorem cr_maxF (F : FnOk X.prog X.w X.K X.mg X.base CX0 k f fd nm sp) (hb : Binds X.K fd nm []) (hr : Room (k + 1) X.A) : CallRK X (.builtin "max") [Str.ofString "key"] (fun vs zs H Q => zs = [.ref f] ∧ rMaxF X.K sp vs H Q) := by
  intro pins s σ H vs zs us ws Q I r rz hq
  obtain ⟨rfl, a, ps, kd, J, rfl, hn, hJ, M, q⟩ := hq
  obtain rfl := Vals.ref1 r
  obtain ⟨w1, rfl, e1⟩ := vals1 rz
  obtain rfl : w1 = Value.ref f := e1
  have hname : (toString "max" ++ toString ".loop" : String) = "max.loop" := by decide
  refine PyProof.Rows.kmk_tree PySem.F.kind_max PySem.F.plain_max PySem.F.entry_max (PyProof.Rows.kmk_max_key _ _) ?_
  refine wpAny_bind (wpAny_of_eq (a := [some (.ref f), none]) (by rfl) ?_)
  refine wpAny_bind (wpAny_pure ?_)
  obtain ⟨its, rv, pl, hz⟩ := I.list (M.lst H hJ)
  refine wpAny_bind (wpAny_pyIter_list pl.isList ?_)
  have I1 : Inv X pins σ H { s with heap := s.heap.push { cls := .type "list_iterator", data := .fields #[.ref a, .int 0 0] } } := I.kept (t' := s.toks) fun b o e => Heap.get?_push_of_some _ e
  have fI : FpOk X pins H s.heap.objs.size := I.fpOk (Nat.le_refl _) (I.hok.fresh (Nat.le_refl _))
  have st0 : ({ s with heap := s.heap.push { cls := .type "list_iterator", data := .fields #[.ref a, .int 0 0] } } : Shared).heap.IsListIter s.heap.objs.size a 0 := ⟨_, Heap.get?_push_size _ rfl, rfl, rfl⟩
  generalize hs1 : ({ s with heap := s.heap.push { cls := .type "list_iterator", data := .fields #[.ref a, .int 0 0] } } : Shared) = s1 at I1 st0 ⊢
  have sz1 : s1.heap.objs.size = s.heap.objs.size + 1 := by rw [← hs1]; exact size_push' ..
  have fS : FpOk X pins H s1.heap.objs.size := I1.fpOk (Nat.le_refl _) (I1.hok.fresh (Nat.le_refl _))
  refine wpAny_bind (wpAny_newObj_type ?_)
  rw [hname]
  have I2 : Inv X pins σ H { s1 with heap := s1.heap.push { cls := .type "list", data := .seq #[] 0 } } := I1.kept (t' := s1.toks) fun b o e => Heap.get?_push_of_some _ e
  exact wpAny_pure ⟨plainId_quiet PySem.F.plain_max_loop _, mx_start F hb hr M _ hn I2 hJ fS fI (fun z => by rw [sz1] at z; exact absurd z (Nat.succ_ne_self _)) (Heap.get?_push_size _ rfl) (st0.at fun o e => Heap.get?_push_of_some _ e) fun H' s' p I' hJ' hp => ⟨.ref p, H', I', rfl, q H' p hJ' hp⟩⟩
end
def tMaxF (K : PySem.W.Frag) (sp : Sp) (ta : TA) : TE := fun σ H Q => ta σ H fun vs H1 => rMaxF K sp vs H1 Q
theorem pe_maxF {X : Cx} {k j : Nat} {x : Str} {sp : Sp} {p p2 p3 pos : Pos} {e : Expr} {t : TA} (c : Cal X.prog X.w X.K X.mg X.base k x sp) (hr : Room j X.A) (hk : k + 1 ≤ j) (hg : Gl X "max") (hm : X.mg "max" = none) (hgx : Gl X x) (ha : PA X [e] t)
    (hdb : (x == ("__debug__" : Str)) = false := by decide)
    (he : backTo pos (starEach [e] X.env) = (false, eval e X.env) :: backTo pos (starEach [] X.env) := by rfl) (hpl : (backTo pos (starEach [e] X.env)).any (·.1) = false := by rfl)
    (hall : (backToKw pos (keywordEach [⟨some "key", .Name x p2, p3⟩] X.env)).all (·.1.isSome) = true := by rfl) (hnone : (backToKw pos (keywordEach [⟨some "key", .Name x p2, p3⟩] X.env)).any (·.1.isNone) = false := by rfl) (hks : (backToKw pos (keywordEach [⟨some "key", .Name x p2, p3⟩] X.env)).filterMap (·.1) = [Str.ofString "key"] := by rfl) :
    PE X (.Call (.Name "max" p) [e] [⟨some "key", .Name x p2, p3⟩] pos) (tMaxF X.K sp t) := by
  obtain ⟨f, fd, ps, F, hmx, hkp, hb⟩ := c.ex
  refine ⟨fun pins s σ H Q I h => ?_⟩
  refine wpAny_Call_Name_kw (ld_blt I hg hm (u := .builtin "max") (by first | rfl | decide +kernel) ?_ (by decide) (by decide))
  refine PyProof.Rows.callWith_kw (thn (ha.run pos pins s σ H _ I h) fun us s1 ⟨vs, H1, I1, r1, q1⟩ => thn ((pk_cons (pe_glob (v := .ref f) hgx hmx rfl hdb) pk_nil).run pos pins s1 σ H1 (fun zs H2 => zs = [V.ref f] ∧ rMaxF X.K sp vs H2 Q) I1 ⟨rfl, q1⟩) fun ws s2 ⟨zs, H2, I2, r2, q2⟩ => ?_) he hpl hall hnone
  rw [hks]
  exact cr_maxF F hb (hr.mono hk) pins s2 σ H2 vs zs us ws Q I2 r1 r2 q2
end Vf

namespace Vf
open PySem L2 PySem.Spec PyProof.Rows He
/-! ### a written tuple, known to be a plain one -/
def tTupP (t : TA) : TE := fun σ H Q => t σ H fun xs H1 => xs.length ≤ sizeLine ∧ ∀ p H', H1 p = none → Same H1 H' → PlT H' p xs → (∀ b, b ≠ p → H' b = H1 b) → Q (.ref p) H'
theorem pe_tupP {X : Cx} {es : List Expr} {x1} {pos : Pos} {t : TA} (h : PA X es t) : PE X (.Tuple es x1 pos) (tTupP t) := by
  refine ⟨fun pins s σ H Q I hq => ?_⟩
  refine wpAny_Tuple_spliced (thn (h.run pos pins s σ H _ I hq) fun us s1 ⟨xs, H1, I1, r, z, q⟩ => ⟨by rw [← r.length]; exact z, ?_⟩)
  have hf : H1 s1.heap.objs.size = none := I1.hok.fresh (Nat.le_refl _)
  have J : Inv X pins σ (upd H1 s1.heap.objs.size (.frz { cls := .type "tuple", data := .seq us.toArray } (.tup xs))) { s1 with heap := s1.heap.push { cls := .type "tuple", data := .seq us.toArray } } :=
    I1.laid (t' := s1.toks) (fun b u e => Heap.get?_push_of_some _ e) (Nat.le_refl _) ⟨Heap.get?_push_size _ rfl, z, us, r, ⟨_, Heap.get?_push_size _ rfl, rfl, _, rfl⟩⟩
  exact ⟨.ref s1.heap.objs.size, _, J, rfl, q _ _ hf (same_new hf) ⟨_, rfl, upd_same⟩ fun b hb => upd_ne hb⟩
theorem e_tupP {t : TA} {σ : L2.St} {H : Hp} {Q : VK} (q : t σ H fun xs H1 => xs.length ≤ sizeLine ∧ ∀ p H', H1 p = none → Same H1 H' → PlT H' p xs → (∀ b, b ≠ p → H' b = H1 b) → Q (.ref p) H') : tTupP t σ H Q := q
/-! ### an own class beside lists -/
def clsLB (x : Str) (K : PySem.W.Frag) : Bool := decide (PySem.W.kitOne K (.type "list") (.ref (ga K x)) = some false) && PySem.W.notFirst K (ga K x) (.type "list")
structure ClsL (K : PySem.W.Frag) (x : Str) : Prop where
  lst : PySem.W.kitOne K (.type "list") (.ref (ga K x)) = some false
  nf : PySem.W.notFirst K (ga K x) (.type "list") = true
theorem clsLB_ok {x : Str} {K : PySem.W.Frag} (c : clsLB x K = true) : ClsL K x := by
  unfold clsLB at c
  obtain ⟨c1, c2⟩ := ba c
  exact ⟨of_decide_eq_true c1, c2⟩
/-- x == y, x an instance with its own __eq__; y one too, a tuple or a list -/
def rEqOL (K : PySem.W.Frag) (C : Addr) (sp : Sp) (E : XK) : R2 := fun x y H Q => ∃ (a b dx : Addr) (fs : List (Str × V)), x = .ref a ∧ y = .ref b ∧ H a = some (.ins C dx fs) ∧
  ((∃ (dy : Addr) (gs : List (Str × V)), H b = some (.ins C dy gs)) ∨ (PySem.W.notFirst K C (.type "tuple") = true ∧ ∃ ys, SqT K H b ys) ∨ (PySem.W.notFirst K C (.type "list") = true ∧ ∃ ys, SqL K H b ys)) ∧ sp [x, y] H (fun z H' => ∃ t, z = .bl t ∧ Q z H') E
theorem op_eqOwnL {X : Cx} {CX : CXT} {C f : Addr} {fd : FuncData} {ps : List Str} {sp : Sp} {E : XK} {n : Nat} (F : FnOk X.prog X.w X.K X.mg X.base CX n f fd ps sp)
    (hs : PySem.W.findIn X.K (.ref C) "__eq__" = some (some (.ref f))) (hf : PySem.W.isFn X.K (.ref f) = true) (hb : Binds X.K fd ps []) (hx : Passes CX X E) (hr : Room n X.A) : OpR X (compareOp .Eq) (rEqOL X.K C sp E) := by
  intro pins s σ H x y v u Q I rx ry q
  obtain ⟨a, b, dx, fs, rfl, rfl, ha, hy, hsp⟩ := q
  cases rx
  cases ry
  obtain ⟨mA, J, _⟩ := ins_get I.hok ha
  obtain ⟨od, J, _⟩ := J.look
  obtain ⟨m, hF⟩ := I.fr
  have go : ∀ tb : Value, PySem.W.Looks (model X.prog X.w) s.heap (typeOf (.ref b)) tb → PySem.W.notFirst X.K C tb = true → wpAny (model X.prog X.w) X.A (richCompare .Eq (.ref a) (.ref b)) (EP X pins σ Q) X.xe s := fun tb ht hn => by
    refine PySem.W.cmp_K (op := .Eq) (tb := tb) hr.units0 hF I.ok.mod.kin J ht hn hs hf ?_
    have hl := F.len _ _ _ _ hsp
    have r2 : Vals [V.ref a, V.ref b] [Value.ref a, Value.ref b] := .cons rfl (.cons rfl .nil)
    refine wpAny_call (codeAny_mono (F.run X.A X.stack s H ⟨[.ref a, .ref b], []⟩ [.ref a, .ref b] [.ref a, .ref b] _ E hr I.env0 (by
      have := hb s [.ref a, .ref b] I.kIn (by simpa using hl)
      simpa using this) r2 hsp) fun r s' hq => ?_)
    cases r with
    | error e => exact hx pins σ H s e s' I hq
    | ok fl =>
      cases fl with
      | ret w =>
        obtain ⟨z, H', I', rz, t, ez, hQ⟩ := I.after hq
        subst ez
        cases rz
        exact ⟨.bl t, H', I', rfl, hQ⟩
      | next => exact False.elim hq
      | brk => exact False.elim hq
      | cont => exact False.elim hq
  rcases hy with ⟨dy, gs, hy⟩ | ⟨hn, ys, hy⟩ | ⟨hn, ys, hy⟩
  · obtain ⟨mB, J', _⟩ := ins_get I.hok hy
    obtain ⟨od', J', _⟩ := J'.look
    exact go (.ref C) J'.type (by simp [PySem.W.notFirst])
  · obtain ⟨its, rv, ⟨o, ho, hc, _⟩, _⟩ := I.tuple hy
    exact go (.type "tuple") (fun A Q E s' k z => wpAny_typeOf (T := "tuple") ⟨o, k _ _ ho, hc⟩ z) hn
  · obtain ⟨its, rv, ⟨o, n, ho, hc, _⟩, _⟩ := I.list hy
    exact go (.type "list") (fun A Q E s' k z => wpAny_typeOf (T := "list") ⟨o, k _ _ ho, hc⟩ z) hn
theorem op_eqCL {X : Cx} {k j : Nat} {x : Str} {sp : Sp} (c : EqC X.prog X.w X.K X.mg X.base k x sp) (hr : Room j X.A) (hk : k ≤ j) : OpR X (compareOp .Eq) (rEqOL X.K (ga X.K x) sp E0) := by
  obtain ⟨f, fd, ps, F, hs, hf, hb⟩ := c.ex
  exact op_eqOwnL F hs hf hb pass0 (hr.mono hk)
/-! ### xs != ys, lists of the same objects -/
def rNeR (K : PySem.W.Frag) : R2 := fun x y H Q => ∃ (a b : Addr) (ps : List Addr), x = .ref a ∧ y = .ref b ∧ SqL K H a (ps.map V.ref) ∧ SqL K H b (ps.map V.ref) ∧ Q (.bl false) H
theorem op_neR {X : Cx} {k : Nat} (hr : Room k X.A) : OpR X (compareOp .NotEq) (rNeR X.K) := by
  intro pins s σ H x y v u Q I rx ry q
  obtain ⟨a, b, ps, rfl, rfl, ha, hb, q⟩ := q
  cases rx
  cases ry
  obtain ⟨its, rv, pl, _⟩ := I.list ha
  obtain ⟨its2, rv2, pl2, _⟩ := I.list hb
  have e1 := refs_of rv
  have e2 := refs_of rv2
  subst e1 e2
  have h := SeqAt.RcNeAt.lists (A := X.A) (s := s) (e := fun _ => true) pl.isList pl2.isList rfl hr.units0 fun j h1 h2 => SeqAt.EqAt.same _
  have e0 : ((List.range (ps.map Value.ref).toArray.size).all fun _ => true) = true := List.all_eq_true.mpr fun _ _ => rfl
  rw [e0] at h
  have h2 : SeqAt.RcNeAt X.A s (.ref a) (.ref b) false := h
  exact h2 X.prog X.w X.xe _ ⟨.bl false, H, I, rfl, q⟩
/-! ### data: ints, bools, texts, tuples of ints -/
theorem plain_ints : ∀ xs : List Int, PyData.plainAll (Di xs) = true
  | [] => by simp [PyData.plainAll]
  | x :: xs => by
    show PyData.plainAll (.int x :: Di xs) = true
    rw [PyData.plainAll, plain_ints xs]
    simp [PyData.plain]
theorem e_eqPV {K : PySem.W.Frag} {x y : V} {H : Hp} {Q : VK} {d e : PyData} (h1 : Dp K H x d) (h2 : Dp K H y e) (p1 : d.plain = true) (p2 : e.plain = true) (hd : d.depth ≤ 60) {b : Bool} (hb : PyData.eqv d e = b) (q : Q (.bl b) H) : rEqP K x y H Q := ⟨d, e, h1, h2, p1, p2, hd, by rw [hb]; exact q⟩
theorem e_nePV {K : PySem.W.Frag} {x y : V} {H : Hp} {Q : VK} {d e : PyData} (h1 : Dp K H x d) (h2 : Dp K H y e) (p1 : d.plain = true) (p2 : e.plain = true) (hd : d.depth ≤ 60) {b : Bool} (hb : PyData.eqv d e = b) (q : Q (.bl (!b)) H) : rNeP K x y H Q := ⟨d, e, h1, h2, p1, p2, hd, by rw [hb]; exact q⟩
theorem dp_ti {K : PySem.W.Frag} {H : Hp} {a : Addr} {xs : List Int} (h : SqT K H a (xs.map V.int)) : Dp K H (.ref a) (.tuple (Di xs)) := .tup h (dpAll_ints xs)
theorem e_eqPT {K : PySem.W.Frag} {H : Hp} {Q : VK} {a b : Addr} {xs ys : List Int} (h1 : SqT K H a (xs.map V.int)) (h2 : SqT K H b (ys.map V.int)) (q : Q (.bl (decide (xs = ys))) H) : rEqP K (.ref a) (.ref b) H Q :=
  e_eqPV (dp_ti h1) (dp_ti h2) (by simp [PyData.plain, plain_ints]) (by simp [PyData.plain, plain_ints]) (by
    show PyData.depthAll (Di xs) + 1 ≤ 60
    rw [depthAll_ints]; decide) (eqvAll_ints xs ys) q
end Vf

namespace Vf
open PySem L2 PySem.Spec PyProof.Rows He
/-! ### a dict comprehension over what is walked -/
def DcB (J : It) (g : TG) (tt : TT) (tk tv : TE) (vs : List Nat) (σ : L2.St) (D : Addr) (H1 : Hp) (Q : VK) : Prop := ∃ W : Nat → Nat → Hp → Prop, (∃ m, W 0 m (upd H1 D (.dK []))) ∧ ∀ i m H, W i m H →
  (J.stop i H ∧ Q (.ref D) H) ∨ (J.go i H ∧
    ∃ Nx : Hp → Prop, (∀ H', Nx H' → ∃ m', m' < m ∧ W (i + 1) m' H') ∧
    ∀ x H', J.yld i H x H' → g x (wipe σ vs) H' fun σ2 H2 => wipe σ2 vs = wipe σ vs ∧ tt σ2 H2 fun b H3 =>
    if b = true then tk σ2 H3 fun y H4 =>
      tv σ2 H4 fun z H5 => ∃ kvs k, y = kV k ∧ H5 D = some (.dK kvs) ∧ kvs.length < sizeLine ∧
      Nx (upd H5 D (.dK (putK kvs k z))) else Nx H3)
theorem e_dc {wi : TI} {g : TG} {tt : TT} {tk tv : TE} {vs : List Nat} {σ : L2.St} {H : Hp} {Q : VK} (q : wi σ H fun J H1 => ∀ D, H1 D = none → DcB J g tt tk tv vs σ D H1 Q) : tDc wi g tt tk tv vs σ H Q := q
theorem dc_it {J : It} {n : Nat} {G : Hp → Prop} {Y : Nat → Hp → V → Hp → Prop} (w : Walk J n G Y) {g : TG} {tt : TT} {tk tv : TE} {vs : List Nat} {σ : L2.St} {H1 : Hp} {D : Addr} {Q : VK} (Pv : Nat → Hp → Prop) (h0 : Pv 0 (upd H1 D (.dK []))) (hG : ∀ i H, i ≤ n → Pv i H → G H)
    (hs : ∀ i x H H', i < n → Pv i H → Y i H x H' → g x (wipe σ vs) H' fun σ2 H2 => wipe σ2 vs = wipe σ vs ∧ tt σ2 H2 fun b H3 =>
      if b = true then tk σ2 H3 fun y H4 => tv σ2 H4 fun z H5 => ∃ kvs k, y = kV k ∧ H5 D = some (.dK kvs) ∧ kvs.length < sizeLine ∧ Pv (i + 1) (upd H5 D (.dK (putK kvs k z))) else Pv (i + 1) H3)
    (hd : ∀ H, Pv n H → Q (.ref D) H) : DcB J g tt tk tv vs σ D H1 Q := by
  refine ⟨fun i m H => m = n - i ∧ i ≤ n ∧ Pv i H, ⟨n, by simp, Nat.zero_le _, h0⟩, ?_⟩
  rintro i m H ⟨rfl, hi, p⟩
  by_cases lt : i < n
  · exact .inr ⟨w.goes i H lt (hG i H hi p), Pv (i + 1), fun H' p' => ⟨n - (i + 1), by omega, rfl, lt, p'⟩, fun x H' y => hs i x H H' lt p (w.yields i H x H' lt (hG i H hi p) y)⟩
  · have e : i = n := by omega
    subst e
    exact .inl ⟨w.stops H (hG i H hi p), hd H p⟩
theorem tupOK (K : PySem.W.Frag) {X : Cx} (hK : X.K = K := by rfl) : CallR X (.type "tuple") (fun xs H Q => ∃ p ys, xs = [.ref p] ∧ ((SqL K H p ys ∧ ∀ l, H l = none → Q (.ref l) (upd H l (.tup ys))) ∨ (SqT K H p ys ∧ Q (.ref p) H))) := hK ▸ call_tuple_of
/-! ### dicts that differ in nothing -/
def rNeDD (K : PySem.W.Frag) : R2 := fun x y H Q => ∃ a b ks ls, x = .ref a ∧ y = .ref b ∧ H a = some (.dK ks) ∧ H b = some (.dK ls) ∧ ks.length = ls.length ∧
  (∀ p ∈ ks, ∃ u d, valV ls p.1 = some u ∧ Dp K H p.2 d ∧ Dp K H u d ∧ PySem.W.alike d d = true ∧ d.depth ≤ 60 ∧ PyData.eqv d d = true) ∧ Q (.bl false) H
theorem hits_data {X : Cx} {pins : List (Addr × Obj)} {σ : L2.St} {H : Hp} {s : Shared} (I : Inv X pins σ H s) {A : Around} (hu : A.units + 60 < cLine) {ls : List (L2.Key × V)} {vb : List (L2.Key × Value)} (rb : KV ls vb) {ks : List (L2.Key × V)} {va : List (L2.Key × Value)} (ra : KV ks va) :
    (∀ p ∈ ks, ∃ u d, valV ls p.1 = some u ∧ Dp X.K H p.2 d ∧ Dp X.K H u d ∧ PySem.W.alike d d = true ∧ d.depth ≤ 60 ∧ PyData.eqv d d = true) → PySem.W.KeqHits A s vb va true := by
  unfold KV at ra
  induction ra with
  | nil => intro _; exact .nil
  | @cons p q ps qs h t ih =>
    intro hp
    obtain ⟨h1, h2⟩ := h
    obtain ⟨u, d, e, d1, d2, al, dp, ev⟩ := hp p (List.mem_cons_self ..)
    have rr : RelO (some u) (valueAt vb p.1) := by rw [← e]; exact rb.val p.1
    obtain ⟨y, hy, ry⟩ := rr.some_of
    obtain ⟨key, v⟩ := q
    have h1' : p.1 = key := h1
    rw [h1'] at hy
    obtain ⟨as1, r1⟩ := Dp.reads I d p.2 v d1 h2
    obtain ⟨as2, r2⟩ := Dp.reads I d u y d2 ry
    have eq := PySem.W.eqAt_alike d d A s v y as1 as2 r1 r2 al (by have := Nat.min_le_left d.depth d.depth; omega)
    rw [ev] at eq
    have z := PySem.W.KeqHits.hit hy eq (ih fun p' hm => hp p' (List.mem_cons_of_mem _ hm))
    exact z
theorem op_neDD {X : Cx} (hu : X.A.units + 64 < cLine) : OpR X (compareOp .NotEq) (rNeDD X.K) := by
  intro pins s σ H x y v u Q I rx ry h
  obtain ⟨a, b, ks, ls, rfl, rfl, ea, eb, hlen, hp, q⟩ := h
  obtain rfl : v = Value.ref a := rx
  obtain rfl : u = Value.ref b := ry
  obtain ⟨_, ya, va, ra, da⟩ := (show ObjOk X.prog X.w H s.heap a (.dK ks) from I.hok a _ ea)
  obtain ⟨_, yb, vb, rb, db⟩ := (show ObjOk X.prog X.w H s.heap b (.dK ls) from I.hok b _ eb)
  have hl : va.length = vb.length := by rw [← ra.length, ← rb.length]; exact hlen
  refine PySem.W.keq_ne (knd := mixKind X.prog X.w) (r := true) ya yb da db (by omega) (fun _ => hits_data I (by show X.A.units + 1 + 60 < cLine; omega) rb ra hp) ?_
  rw [show (va.length == vb.length && true) = true from by rw [hl]; simp]
  exact ⟨.bl false, H, I, rfl, q⟩
end Vf

/-! set(xs), xs a list of ints: as HandS.SetFor has it for a tuple; sorted of it by cr_sortedSet. -/
namespace Vf
open PySem L2 PySem.Spec PyProof.Rows He
section
variable {P : Program} {w : World} {A : Around} {E : Value → Shared → Prop} {s : Shared}
/-- the new set as it is made -/
abbrev emptyS (w : World) : Obj := { cls := .type "set", dict := none, data := .set #[] 0 (.fresh 0 0 (!w.params.followText "set-order")) }
theorem set_of_ints {l : Addr} {its : Array Value} (ns : List Int) {Q : Value → Shared → Prop}
    (h0 : A.handled = none) (isl : s.heap.IsList l its) (hin : IntsAre its.toList ns)
    (small : ns.length + 1 < scanBound)
    (q : ∀ (g : Heap) (tk n : Nat), SetR w g s.heap.objs.size (fun j => decide (j ∈ ns)) n → n ≤ ns.length →
      (∀ b o, s.heap.get? b = some o → g.get? b = some o) →
      Q (.ref s.heap.objs.size) { s with heap := g, toks := tk }) :
    wpAny (model P w) A (call (.type "set") [.ref l]) Q E s := by
  have size : its.size = ns.length := by
    rw [← IntsAre.length hin]; exact Array.length_toList.symm
  obtain ⟨_, _, mro⟩ := F.called_set.mro
  have made := F.called_set.made; have sub := F.called_set.sub
  have e1 := F.called_set.notType; have e2 := F.called_set.canCreate
  have e3 := F.typeCall_set_1 (.ref l)
  refine wpAny_call (codeAny_of_tree ?_)
  show wpAny _ _ (callAny (.type "set") _) _ _ _
  refine wpAny_pure ⟨Code.quiet_builtin _ (by decide +kernel),
    codeAny_builtin F.entry_type_call ?_⟩
  rw [Around.under_plain (weight_type_call_type "set" [.ref l] []) rfl]
  repeat (any_goals (first | assumption | wp_step))

  refine codeAny_mono (code_set_led1 (.ref l) (E := E)
    (Q₁ := fun r t => r = .ref s.heap.objs.size ∧ t = { s with heap := s.heap.push (emptyS w) })
    ⟨rfl, rfl⟩) fun r t hr => ?_
  rcases r with e | fl
  · exact hr
  cases fl with
  | ret obj =>
    obtain ⟨rfl, rfl⟩ := hr
    have at1 : (s.heap.push (emptyS w)).get? s.heap.objs.size = some (emptyS w) := Heap.get?_push_size _ rfl
    have ty1 : Shared.TypeIs { s with heap := s.heap.push (emptyS w) } (.ref s.heap.objs.size) "set" := ⟨_, at1, rfl⟩
    have look := F.called_set.init.lookup
    have bind := F.called_set.init.bind (.ref s.heap.objs.size)
    repeat (any_goals (first | assumption | wp_step))

    refine codeAny_mono (codeAny_call_builtin
      (R := wants (fun r t => r = .none ∧ ∃ g tk n, t = { s with heap := g, toks := tk } ∧
        SetR w g s.heap.objs.size (fun j => decide (j ∈ ns)) n ∧ n ≤ ns.length ∧
        (∀ b o, s.heap.get? b = some o → g.get? b = some o)) E)
      F.called_set.init.plain F.entry_set_init (check_set_init_1 ty1 ?_)) fun r2 t2 hr2 => ?_
    · have isl1 : (s.heap.push (emptyS w)).IsList l its := isl.push _
      have d1 := F.sub_list_set
      have d2 := F.sub_list_frozenset
      have nd : (Value.type "list" == Value.type "dict") = false := by decide
      obtain ⟨ol, hol, hcl, nl, hdl⟩ := id isl
      obtain ⟨oc, od, odt, osl⟩ := ol
      simp only at hcl hdl
      subst hcl; subst hdl
      have hol1 := Heap.get?_push_of_some (emptyS w) hol
      unfold Builtin.«set.__init__» noKeywords Builtin.Frozenset.updateFrom
      generalize hPI : pyIter = PI
      wp_walk
      subst hPI

      refine wpAny_pyIter_list isl1 ?_
      refine wpAny_bind (wpAny_runValue ?_)
      have lt : l < s.heap.objs.size := Heap.lt_size hol
      have h3 : A.in1.in1.in1.handled = none := by simp [h0]
      have sz : (s.heap.push (emptyS w)).objs.size = s.heap.objs.size + 1 := Heap.size_push ..
      have n1 : l ≠ (s.heap.push (emptyS w)).objs.size := by rw [sz]; exact Nat.ne_of_lt (Nat.lt_succ_of_lt lt)
      have n2 : s.heap.objs.size ∉ [(s.heap.push (emptyS w)).objs.size, l] := by
        rw [sz]
        intro m
        rcases List.mem_cons.mp m with z | z
        · exact Nat.succ_ne_self _ z.symm
        · exact Nat.ne_of_gt lt (List.mem_singleton.mp z)
      have val : ∀ (i : Nat) (v : Value), its[i]? = some v → ∃ k t, ns[i]? = some k ∧ v = .int k t := fun i v hv => by
        have hi : i < ns.length := by rw [← size]; exact (Array.getElem?_eq_some_iff.mp hv).1
        obtain ⟨t, e⟩ := IntsAre.int_at hin i v (by rw [Array.getElem?_toList]; exact hv)
        rw [List.getD_eq_getElem?_getD, List.getElem?_eq_getElem hi] at e
        exact ⟨ns[i], t, List.getElem?_eq_getElem hi, e⟩
      refine set_update_ints ((Walks.list h3 _ l n1 its).toS) s.heap.objs.size n2 ns size small val
        (its.size - 0) 0 _ (by omega) (Nat.zero_le _)
        ⟨⟨_, Heap.get?_push_size _ rfl, rfl, rfl⟩, isl1.push _⟩
        ⟨0, Nat.le_refl 0, setR_new_at (Heap.get?_push_of_some _ at1)⟩ fun t' n mv le R => ?_
      obtain ⟨g, g2, dr, tk, os⟩ := t'
      have eg : g2 = s.gens := mv.gens
      have ed : dr = s.drawn := mv.drawn
      have eo : os = s.os := mv.os
      subst eg ed eo
      rw [size] at le
      show wpAny _ _ _ _ _ _
      refine wpAny_pure ?_
      show wpAny _ _ (ret Value.none) _ _ _
      refine wpAny_pure ⟨rfl, g, tk, n, rfl, R, le, fun b o e => ?_⟩
      have lb : b < s.heap.objs.size := Heap.lt_size e
      refine mv.heap b o (fun m => ?_) (Heap.get?_push_of_some _ (Heap.get?_push_of_some _ e))
      rcases List.mem_cons.mp m with z | z
      · exact Nat.ne_of_lt lb z
      · have := List.mem_singleton.mp z
        rw [sz] at this
        exact Nat.ne_of_lt (Nat.lt_succ_of_lt lb) this
    · rcases r2 with e | fl2
      · exact hr2
      cases fl2 with
      | ret r =>
        obtain ⟨rfl, g, tk, n, rfl, h1, h2, h3⟩ := hr2
        repeat (any_goals (first | assumption | wp_step))
        exact q _ _ _ h1 h2 h3
      | _ => exact hr2.elim
  | _ => exact hr.elim
end
/-- set(xs), xs a list of ints -/
def rSetL (K : PySem.W.Frag) (w : World) : List V → Hp → VK → Prop := fun xs H Q => ∃ (p : Addr) (ns : List Int), xs = [.ref p] ∧ SqL K H p (ns.map V.int) ∧ ns.length ≤ 1000 ∧
  ∀ a n, H a = none → n ≤ ns.length → Q (.ref a) (upd H a (SetO w a (fun j => decide (j ∈ ns)) n))
theorem cr_setL {X : Cx} (hc : X.calm = true) : CallR X (.type "set") (rSetL X.K X.w) := by
  intro pins s σ H xs us Q I r h
  obtain ⟨p, ns, rfl, hq, hl, q⟩ := h
  obtain ⟨u, rfl, rx⟩ := vals1 r
  cases rx
  obtain ⟨its, rv, pl, hz⟩ := I.list hq
  refine set_of_ints ns (I.ok.hd hc) pl.isList (by simpa using ints_of_vals rv) (by unfold scanBound; omega) fun g tk n R le k => ?_
  exact ⟨.ref s.heap.objs.size, _, I.laid (t' := tk) k (Nat.le_refl _) (setO_new R), rfl, q _ n (I.hok.fresh (Nat.le_refl _)) le⟩
end Vf
namespace Vf
open PySem L2 PySem.Spec PyProof.Rows He
theorem niDK (K : PySem.W.Frag) {X : Cx} (hu : X.A.units + 65 < cLine) (hK : X.K = K := by rfl) : OpR X (compareOp .NotIn) (rNotInD K) := hK ▸ op_notInD hu
/-! ### [e for x in xs for y in f(x)] -/
/-- the inner clause's turns, Nx where it ends -/
def Inn (J1 : It) (g1 : TG) (tt1 : TT) (te : TE) (vs1 : List Nat) (σ2 : L2.St) (D : Addr) (H4 : Hp) (Nx : Hp → Prop) : Prop :=
  ∃ W1 : Nat → Nat → Hp → Prop, (∃ m, W1 0 m H4) ∧ ∀ j k H, W1 j k H → (J1.stop j H ∧ Nx H) ∨ (J1.go j H ∧
    ∃ Nx1 : Hp → Prop, (∀ H', Nx1 H' → ∃ k', k' < k ∧ W1 (j + 1) k' H') ∧
    ∀ x H', J1.yld j H x H' → g1 x (wipe σ2 vs1) H' fun σ3 H5 => wipe σ3 vs1 = wipe σ2 vs1 ∧ tt1 σ3 H5 fun b H6 =>
      if b = true then te σ3 H6 fun y H7 => ∃ acc, H7 D = some (.lst acc) ∧ acc.length < sizeLine ∧ Nx1 (upd H7 D (.lst (acc ++ [y])))
      else Nx1 H6)
def Lc2B (J : It) (g : TG) (tt : TT) (wi1 : TI) (g1 : TG) (tt1 : TT) (te : TE) (vs vs1 : List Nat) (σ : L2.St) (D : Addr) (H1 : Hp) (Q : VK) : Prop :=
  ∃ W : Nat → Nat → Hp → Prop, (∃ m, W 0 m (upd H1 D (.lst []))) ∧ ∀ i m H, W i m H → (J.stop i H ∧ Q (.ref D) H) ∨ (J.go i H ∧
    ∃ Nx : Hp → Prop, (∀ H', Nx H' → ∃ m', m' < m ∧ W (i + 1) m' H') ∧
    ∀ x H', J.yld i H x H' → g x (wipe σ vs) H' fun σ2 H2 => wipe σ2 vs = wipe σ vs ∧ tt σ2 H2 fun b H3 =>
      if b = true then wi1 σ2 H3 fun J1 H4 => Inn J1 g1 tt1 te vs1 σ2 D H4 Nx else Nx H3)
theorem e_lc2 {wi wi1 : TI} {g g1 : TG} {tt tt1 : TT} {te : TE} {vs vs1 : List Nat} {σ : L2.St} {H : Hp} {Q : VK}
    (q : wi σ H fun J H1 => ∀ D, H1 D = none → Lc2B J g tt wi1 g1 tt1 te vs vs1 σ D H1 Q) : tLc2 wi g tt wi1 g1 tt1 te vs vs1 σ H Q := q
theorem inn_it {J : It} {n : Nat} {G : Hp → Prop} {Y : Nat → Hp → V → Hp → Prop} (w : Walk J n G Y) {g : TG} {tt : TT} {te : TE} {vs : List Nat} {σ : L2.St} {D : Addr} {H1 : Hp} {Nx : Hp → Prop}
    (Pv : Nat → Hp → Prop) (h0 : Pv 0 H1) (hG : ∀ i H, i ≤ n → Pv i H → G H)
    (hs : ∀ i x H H', i < n → Pv i H → Y i H x H' → g x (wipe σ vs) H' fun σ2 H2 => wipe σ2 vs = wipe σ vs ∧ tt σ2 H2 fun b H3 =>
      if b = true then te σ2 H3 fun y H4 => ∃ acc, H4 D = some (.lst acc) ∧ acc.length < sizeLine ∧ Pv (i + 1) (upd H4 D (.lst (acc ++ [y]))) else Pv (i + 1) H3)
    (hd : ∀ H, Pv n H → Nx H) : Inn J g tt te vs σ D H1 Nx := by
  refine ⟨fun i m H => m = n - i ∧ i ≤ n ∧ Pv i H, ⟨n, by simp, Nat.zero_le _, h0⟩, ?_⟩
  rintro i m H ⟨rfl, hi, p⟩
  by_cases lt : i < n
  · exact .inr ⟨w.goes i H lt (hG i H hi p), Pv (i + 1), fun H' p' => ⟨n - (i + 1), by omega, rfl, lt, p'⟩, fun x H' y => hs i x H H' lt p (w.yields i H x H' lt (hG i H hi p) y)⟩
  · have e : i = n := by omega
    subst e
    exact .inl ⟨w.stops H (hG i H hi p), hd H p⟩
theorem lc2_it {J : It} {n : Nat} {G : Hp → Prop} {Y : Nat → Hp → V → Hp → Prop} (w : Walk J n G Y) {g g1 : TG} {tt tt1 : TT} {te : TE} {wi1 : TI} {vs vs1 : List Nat} {σ : L2.St} {D : Addr} {H1 : Hp} {Q : VK}
    (Pv : Nat → Hp → Prop) (h0 : Pv 0 (upd H1 D (.lst []))) (hG : ∀ i H, i ≤ n → Pv i H → G H)
    (hs : ∀ i x H H', i < n → Pv i H → Y i H x H' → g x (wipe σ vs) H' fun σ2 H2 => wipe σ2 vs = wipe σ vs ∧ tt σ2 H2 fun b H3 =>
      if b = true then wi1 σ2 H3 fun J1 H4 => Inn J1 g1 tt1 te vs1 σ2 D H4 (Pv (i + 1)) else Pv (i + 1) H3)
    (hd : ∀ H, Pv n H → Q (.ref D) H) : Lc2B J g tt wi1 g1 tt1 te vs vs1 σ D H1 Q := by
  refine ⟨fun i m H => m = n - i ∧ i ≤ n ∧ Pv i H, ⟨n, by simp, Nat.zero_le _, h0⟩, ?_⟩
  rintro i m H ⟨rfl, hi, p⟩
  by_cases lt : i < n
  · exact .inr ⟨w.goes i H lt (hG i H hi p), Pv (i + 1), fun H' p' => ⟨n - (i + 1), by omega, rfl, lt, p'⟩, fun x H' y => hs i x H H' lt p (w.yields i H x H' lt (hG i H hi p) y)⟩
  · have e : i = n := by omega
    subst e
    exact .inl ⟨w.stops H (hG i H hi p), hd H p⟩
end Vf

/-! set(xs), xs a list of texts, and sorted of it; xs.remove(x) where the items are data. -/
namespace Vf
open PySem L2 PySem.Spec PyProof.Rows He
abbrev tk_ (P : Program) (w : World) := PySem.strKind P w
def txOf (e : Int × Value) : Str := match e.2 with | .str x _ => x | _ => Str.empty
def TxE (w : World) (e : Int × Value) : Prop := ∃ x u, e.2 = Value.str x u ∧ e.1 = hashStr w x
/-- the set at a has the texts L -/
def TxS (w : World) (h : Heap) (a : Addr) (L : List Str) : Prop :=
  ∃ ob arr ep tb, h.get? a = some ob ∧ ob.ExactSet ∧ ob.data = .set arr ep tb ∧ (∀ e ∈ arr.toList, TxE w e)
    ∧ (arr.toList.map txOf).Perm L ∧ L.Nodup ∧ L.length < scanBound ∧ tb.fits arr.size = true
    ∧ Ris tb.place.toList ∧ (w.params.followText "set-order" = true ∨ tb.led = true)
theorem TxS.to {w : World} {h g : Heap} {a : Addr} {L : List Str} (t : TxS w h a L) (k : ∀ o, h.get? a = some o → g.get? a = some o) : TxS w g a L := by
  obtain ⟨ob, arr, ep, tb, h1, r⟩ := t
  exact ⟨ob, arr, ep, tb, k _ h1, r⟩
section
variable {P : Program} {w : World} {A : Around} {E : Value → Shared → Prop} {s : Shared}
theorem tx_kinds {l : List (Int × Value)} (g : ∀ e ∈ l, TxE w e) : ElemsOf (tk_ P w) l := fun e m => by
  obtain ⟨x, u, e1, e2⟩ := g e m
  exact ⟨⟨x, by rw [e1]; exact PySem.strKind_is P w x u, e2⟩, by rw [e1]; rfl⟩
theorem tx_is {e : Int × Value} (g : TxE w e) (x : Str) : (tk_ P w).is x e.2 = true ↔ txOf e = x := by
  obtain ⟨y, u, e1, _⟩ := g
  have h1 : txOf e = y := by unfold txOf; rw [e1]
  rw [h1, e1]
  constructor
  · intro q
    exact (tk_ P w).inj _ _ _ (PySem.strKind_is P w y u) q
  · rintro rfl
    exact PySem.strKind_is P w y u
theorem tx_size {arr : Array (Int × Value)} {L : List Str} (p : (arr.toList.map txOf).Perm L) : arr.size = L.length := by
  have := p.length_eq
  rw [List.length_map] at this
  rw [← this]
  exact Array.length_toList.symm
/-- where the new one is stored -/
theorem tx_store {gv : Bool → Sem Unit} (hgv : ∀ (b : Bool) (s1 : Shared) (R : Unit → Shared → Prop), R () s1 → wpAny (model P w) A (gv b) R E s1)
    {a : Addr} {ob : Obj} {arr : Array (Int × Value)} {ep : Nat} {tb : SetTable}
    (e0 : s.heap.get? a = some ob) (ex : ob.ExactSet) (ed : ob.data = .set arr ep tb)
    {arr1 : Array (Int × Value)} {tb1 : SetTable} {L : List Str}
    (g1 : ∀ e ∈ arr1.toList, TxE w e) (p1 : (arr1.toList.map txOf).Perm L) (n1 : L.Nodup) (b1 : L.length < scanBound)
    (f1 : tb1.fits arr1.size = true) (r1 : Ris tb1.place.toList) (l1 : w.params.followText "set-order" = true ∨ tb1.led = true)
    {dm : Bool} {R : Option Bool → Shared → Prop}
    (q : ∀ g, Heap.SameBut a s.heap g → TxS w g a L → R (some true) { s with heap := g }) :
    wpAny (model P w) A (do
      storeSet a arr1 tb1
      if (!dm && tb1.tooFull) = true then do
        gv (relayAll tb1 arr1 (SetTable.grown arr1.size)).2.2
        storeSet a (relayAll tb1 arr1 (SetTable.grown arr1.size)).1 (relayAll tb1 arr1 (SetTable.grown arr1.size)).2.1
        pure (some true)
      else pure (some true)) R E s := by
  have bs : arr1.size < scanBound := by rw [tx_size p1]; exact b1
  refine wpAny_bind (wpAny_storeSet_of e0 ed ?_ (fits_of_scanBound bs))
  have e1 := store_at (es' := arr1) (t' := tb1) e0 ed
  have sb := Heap.SameBut.update s.heap a (Obj.putSet arr1 tb1)
  by_cases c : (!dm && tb1.tooFull) = true
  · rw [if_pos c]
    have pm := relayAll_perm tb1 arr1 (SetTable.grown arr1.size)
    have pf := relayAll_fits tb1 arr1 (SetTable.grown arr1.size)
    have pr := relayAll_ris tb1 arr1 (SetTable.grown arr1.size)
    have pl := relayAll_led tb1 arr1 (SetTable.grown arr1.size)
    revert pm pf pr pl
    generalize relayAll tb1 arr1 (SetTable.grown arr1.size) = rel
    obtain ⟨arr2, tb2, gave⟩ := rel
    intro pm pf pr pl
    dsimp only at pm pf pr pl ⊢
    have p2 : (arr2.toList.map txOf).Perm L := (pm.map txOf).trans p1
    have bs2 : arr2.size < scanBound := by rw [tx_size p2]; exact b1
    refine wpAny_bind (hgv _ _ _ ?_)
    refine wpAny_bind (wpAny_storeSet_of e1 rfl ?_ (fits_of_scanBound bs2))
    have e2 := store_at (es' := arr2) (t' := tb2) e1 rfl
    refine wpAny_pure (q _ (sb.trans (Heap.SameBut.update _ a _)) ?_)
    refine ⟨_, arr2, _, tb2, e2, ex, rfl, fun e m => g1 e (pm.mem_iff.mp m), p2, n1, b1, pf, pr, ?_⟩
    exact l1.imp id fun z => pl.trans z
  · rw [if_neg c]
    exact wpAny_pure (q _ sb ⟨_, arr1, _, tb1, e1, ex, rfl, g1, p1, n1, b1, f1, r1, l1⟩)
/-- one text more -/
theorem tx_add {a : Addr} {L : List Str} {x : Str} {u : Tok} {Q : Bool → Shared → Prop} (t : TxS w s.heap a L) (room : L.length + 1 < scanBound)
    (q1 : x ∈ L → Q false s) (q2 : x ∉ L → ∀ g, Heap.SameBut a s.heap g → TxS w g a (x :: L) → Q true { s with heap := g }) :
    wpAny (model P w) A (setAddHashed a (.str x u) ((tk_ P w).hash x)) Q E s := by
  obtain ⟨ob, arr, ep, tb, e0, ex, ed, g, p, n, b, f, r, l⟩ := t
  have hx : (tk_ P w).is x (.str x u) = true := PySem.strKind_is P w x u
  have hs : (Value.str x u).scannable = true := rfl
  have bs : arr.size < scanBound := by rw [tx_size p]; exact b
  have el : ElemsOf (tk_ P w) arr.toList := tx_kinds g
  have mem : x ∈ L ↔ ∃ e ∈ arr.toList, (tk_ P w).is x e.2 = true := by
    rw [← p.mem_iff, List.mem_map]
    exact ⟨fun ⟨e, m, h⟩ => ⟨e, m, (tx_is (g e m) x).2 h⟩, fun ⟨e, m, h⟩ => ⟨e, m, (tx_is (g e m) x).1 h⟩⟩
  unfold setAddHashed setAddHashedIn
  refine wpAny_holding (wpAny_bind (wpAny_setState_of e0 ed f ?_))
  dsimp only
  rw [byScan_of hs bs el]
  simp only [↓reduceIte]
  unfold setAddByScan
  refine wpAny_bind ?_
  refine wpAny_bind (wpAny_rule ?_)
  refine wpAny_bind (wpAny_setScan_of hx e0 ed f el ?_)
  cases fi : List.findIdx? (fun e => (tk_ P w).is x e.2) arr.toList with
  | some j =>
    dsimp only
    obtain ⟨hj, pj, _⟩ := List.findIdx?_eq_some_iff_getElem.mp fi
    exact wpAny_pure (wpAny_pure (q1 (mem.2 ⟨_, List.getElem_mem hj, pj⟩)))
  | none =>
    dsimp only
    have nx : x ∉ L := fun m => by
      obtain ⟨e, m2, h⟩ := mem.1 m
      have z := List.findIdx?_eq_none_iff.mp fi e m2
      rw [h] at z
      cases z
    have gw : ∀ (c : Bool) {s1 : Shared} {R : Unit → Shared → Prop}, R () s1 → wpAny (model P w) A (match c with | true => rule "set.scan.the-table-gave-way" | false => pure ()) R E s1 := fun c s1 R h => by
      cases c
      · exact wpAny_pure h
      · exact wpAny_rule h
    have pm := layNew_perm tb arr ((tk_ P w).hash x) (.str x u)
    have pf := layNew_fits tb arr ((tk_ P w).hash x) (.str x u)
    have pr := layNew_ris tb arr ((tk_ P w).hash x) (.str x u) r
    have pl := layNew_led tb arr ((tk_ P w).hash x) (.str x u)
    revert pm pf pr pl
    generalize layNew tb arr ((tk_ P w).hash x) (.str x u) = new
    obtain ⟨arr1, tb1, dm, gave⟩ := new
    intro pm pf pr pl
    dsimp only at pm pf pr pl ⊢
    rw [Array.toList_push] at pm
    have pc : arr1.toList.Perm (((tk_ P w).hash x, Value.str x u) :: arr.toList) := pm.trans (List.perm_append_singleton _ _)
    have p1 : (arr1.toList.map txOf).Perm (x :: L) := (pc.map txOf).trans (p.cons x)
    have g1 : ∀ e ∈ arr1.toList, TxE w e := fun e m => by
      rcases List.mem_cons.mp (pc.mem_iff.mp m) with z | z
      · exact ⟨x, u, by rw [z], by rw [z]; rfl⟩
      · exact g e z
    have n1 : (x :: L).Nodup := List.nodup_cons.mpr ⟨nx, n⟩
    have b1 : (x :: L).length < scanBound := room
    have l1 : w.params.followText "set-order" = true ∨ tb1.led = true := l.imp id fun z => pl.trans z
    have fin := fun g' sb r' => q2 nx g' sb r'
    refine wpAny_bind (gw _ ?_)
    split
    · refine wpAny_bind ?_
      rw [hashByValue_scannable 8 hs]
      refine wpAny_pure ?_
      refine tx_store ?_ e0 ex ed g1 p1 n1 b1 ?_ ?_ ?_ ?_
      · intro c s1 R h; exact gw c h
      · first | (split <;> first | exact pf | exact SetTable.fits_plain_off pf) | exact pf
      · first | (split <;> exact pr) | exact pr
      · first | (split <;> exact l1) | exact l1
      · intro g' sb r'; dsimp only; exact wpAny_pure (fin g' sb r')
    · refine wpAny_bind (wpAny_pure ?_)
      simp only [↓reduceIte]
      refine tx_store ?_ e0 ex ed g1 p1 n1 b1 pf pr l1 ?_
      · intro c s1 R h; exact gw c h
      · intro g' sb r'; dsimp only; exact wpAny_pure (fin g' sb r')
/-- the set takes all of a list -/
theorem tx_loop {I : Addr} {fp wr : List Addr} {G : Array GenState → Array GenState → Prop} {n : Nat} {Pv : Nat → Value → Prop} {St : Nat → Shared → Prop} {R : Result → Shared → Prop}
    (W : WalksS P w A.in1 I fp wr G n Pv St) (a : Addr) (na : a ∉ fp) (xs : List Str) (hn : n = xs.length) (room : xs.length + 1 < scanBound)
    (pv : ∀ i v, Pv i v → ∃ x u, xs[i]? = some x ∧ v = .str x u) :
    ∀ (k i : Nat) (s : Shared), n = i + k → St i s →
      (∃ L, L.length ≤ i ∧ (∀ x, x ∈ L ↔ x ∈ xs.take i) ∧ TxS w s.heap a L) →
      (∀ s' L, Moved (a :: wr) G s s' → L.length ≤ n → (∀ x, x ∈ L ↔ x ∈ xs) → TxS w s'.heap a L → R (.ok (.ret .none)) s') →
      codeAny (model P w) A (.builtin "set.update.loop" ⟨[.ref a, .ref I], []⟩) R s := by
  have nw : a ∉ wr := fun z => na (W.sub _ z)
  have sub : ∀ b ∈ wr, b ∈ a :: wr := fun b m => List.mem_cons_of_mem _ m
  intro k
  induction k with
  | zero =>
    rintro i s hk st ⟨L, l1, l2, t⟩ q
    have e : n = i := by omega
    subst e
    refine codeAny_builtin F.entry_set_update_loop ?_
    rw [Around.under_plainId F.plain_set_update_loop _]
    show wpAny _ A.in1 (pyNext (.ref I) >>= _) _ _ s
    refine wpAny_bind (W.done s _ _ st fun s' m => ?_)
    show wpAny _ A.in1 (ret Value.none) _ _ s'
    refine wpAny_pure (q s' L (m.mono sub) l1 (fun x => ?_) (t.to fun o h => m.heap a o nw h))
    rw [l2, List.take_of_length_le (by omega)]
  | succ k ih =>
    rintro i s hk st ⟨L, l1, l2, t⟩ q
    have lt : i < n := by omega
    refine codeAny_builtin F.entry_set_update_loop ?_
    rw [Around.under_plainId F.plain_set_update_loop _]
    show wpAny _ A.in1 (pyNext (.ref I) >>= _) _ _ s
    refine wpAny_bind (W.item i s _ _ lt st fun v s' hp st' m => ?_)
    obtain ⟨x, u, hx, rfl⟩ := pv i v hp
    have t' := t.to (g := s'.heap) fun o h => m.heap a o nw h
    have l3 : ∀ z, z ∈ xs.take (i + 1) ↔ z ∈ xs.take i ∨ z = x := fun z => by
      rw [List.take_add_one, hx, List.mem_append]
      exact or_congr Iff.rfl (by simp)
    have next : ∀ (g : Heap) (M : List Str), (∀ b o, b ≠ a → s'.heap.get? b = some o → g.get? b = some o) → M.length ≤ i + 1 → (∀ z, z ∈ M ↔ z ∈ xs.take (i + 1)) → TxS w g a M →
        codeAny (model P w) A (.builtin "set.update.loop" ⟨[.ref a, .ref I], []⟩) R { s' with heap := g, toks := s'.toks + 1 } := fun g M k1 lm lz tm => by
      refine ih (i + 1) _ (by omega) (W.frame _ s' _ _ st' (Nat.le_succ _) fun b mb o e => ?_) ⟨M, lm, lz, tm⟩ fun s2 L2 m2 c1 c2 c3 => ?_
      · exact k1 b o (fun z => na (z ▸ mb)) e
      · refine q s2 L2 (Moved.trans W.gtrans ((m.mono sub).then_heap (Nat.le_succ _) fun b o nb e => ?_) m2) c1 c2 c3
        exact k1 b o (fun z => nb (by rw [z]; exact List.mem_cons_self)) e
    show wpAny _ A.in1 (holding [Value.str x u] (setAdd a (.str x u)) >>= _) _ _ s'
    refine wpAny_bind (wpAny_holding ?_)
    unfold setAdd
    refine wpAny_holding ?_
    refine wpAny_bind ((tk_ P w).pyHash (k := x) (PySem.strKind_is P w x u) ?_)
    refine tx_add (s := { s' with toks := s'.toks + 1 }) t' (by omega) (fun mx => ?_) fun nx g sb tn => ?_
    · refine wpAny_pure ⟨plainId_quiet F.plain_set_update_loop _, next s'.heap L (fun b o _ e => e) (by omega) (fun z => ?_) t'⟩
      rw [l3, ← l2 z]
      exact ⟨.inl, fun h => h.elim id fun e => e ▸ mx⟩
    · refine wpAny_pure ⟨plainId_quiet F.plain_set_update_loop _, next g (x :: L) (fun b o nb e => by rw [sb.2 b nb]; exact e) (by rw [List.length_cons]; omega) (fun z => ?_) tn⟩
      rw [l3, ← l2 z, List.mem_cons]
      exact Or.comm
theorem strs_get : ∀ {us : List Value} {xs : List Str}, StrsAre us xs → ∀ (i : Nat) (v : Value), us[i]? = some v → ∃ x u, xs[i]? = some x ∧ v = .str x u
  | _, _, .nil, i, v, h => by simp at h
  | _, _, .cons n t r, 0, v, h => ⟨n, t, rfl, by simpa using h.symm⟩
  | _, _, .cons n t r, i + 1, v, h => strs_get r i v (by simpa using h)
/-- set(xs) -/
theorem tx_of {l : Addr} {its : Array Value} (xs : List Str) {Q : Value → Shared → Prop}
    (h0 : A.handled = none) (isl : s.heap.IsList l its) (hin : StrsAre its.toList xs) (small : xs.length + 1 < scanBound)
    (q : ∀ (g : Heap) (tk : Nat) (L : List Str), TxS w g s.heap.objs.size L → L.length ≤ xs.length → (∀ x, x ∈ L ↔ x ∈ xs) →
      (∀ b o, s.heap.get? b = some o → g.get? b = some o) → Q (.ref s.heap.objs.size) { s with heap := g, toks := tk }) :
    wpAny (model P w) A (call (.type "set") [.ref l]) Q E s := by
  have size : its.size = xs.length := by rw [← StrsAre.len_eq hin]; exact Array.length_toList.symm
  obtain ⟨_, _, mro⟩ := F.called_set.mro
  have made := F.called_set.made; have sub := F.called_set.sub
  have e1 := F.called_set.notType; have e2 := F.called_set.canCreate
  have e3 := F.typeCall_set_1 (.ref l)
  refine wpAny_call (codeAny_of_tree ?_)
  show wpAny _ _ (callAny (.type "set") _) _ _ _
  refine wpAny_pure ⟨Code.quiet_builtin _ (by decide +kernel), codeAny_builtin F.entry_type_call ?_⟩
  rw [Around.under_plain (weight_type_call_type "set" [.ref l] []) rfl]
  repeat (any_goals (first | assumption | wp_step))

  refine codeAny_mono (code_set_led1 (.ref l) (E := E)
    (Q₁ := fun r t => r = .ref s.heap.objs.size ∧ t = { s with heap := s.heap.push (emptyS w) }) ⟨rfl, rfl⟩) fun r t hr => ?_
  rcases r with e | fl
  · exact hr
  cases fl with
  | ret obj =>
    obtain ⟨rfl, rfl⟩ := hr
    have at1 : (s.heap.push (emptyS w)).get? s.heap.objs.size = some (emptyS w) := Heap.get?_push_size _ rfl
    have ty1 : Shared.TypeIs { s with heap := s.heap.push (emptyS w) } (.ref s.heap.objs.size) "set" := ⟨_, at1, rfl⟩
    have look := F.called_set.init.lookup
    have bind := F.called_set.init.bind (.ref s.heap.objs.size)
    repeat (any_goals (first | assumption | wp_step))

    refine codeAny_mono (codeAny_call_builtin
      (R := wants (fun r t => r = .none ∧ ∃ g tk L, t = { s with heap := g, toks := tk } ∧ TxS w g s.heap.objs.size L ∧ L.length ≤ xs.length ∧ (∀ x, x ∈ L ↔ x ∈ xs) ∧
        (∀ b o, s.heap.get? b = some o → g.get? b = some o)) E)
      F.called_set.init.plain F.entry_set_init (check_set_init_1 ty1 ?_)) fun r2 t2 hr2 => ?_
    · have isl1 : (s.heap.push (emptyS w)).IsList l its := isl.push _
      have d1 := F.sub_list_set
      have d2 := F.sub_list_frozenset
      have nd : (Value.type "list" == Value.type "dict") = false := by decide
      obtain ⟨ol, hol, hcl, nl, hdl⟩ := id isl
      obtain ⟨oc, od, odt, osl⟩ := ol
      simp only at hcl hdl
      subst hcl; subst hdl
      have hol1 := Heap.get?_push_of_some (emptyS w) hol
      unfold Builtin.«set.__init__» noKeywords Builtin.Frozenset.updateFrom
      generalize hPI : pyIter = PI
      wp_walk
      subst hPI

      refine wpAny_pyIter_list isl1 ?_
      refine wpAny_bind (wpAny_runValue ?_)
      have lt : l < s.heap.objs.size := Heap.lt_size hol
      have h3 : A.in1.in1.in1.handled = none := by simp [h0]
      have sz : (s.heap.push (emptyS w)).objs.size = s.heap.objs.size + 1 := Heap.size_push ..
      have n1 : l ≠ (s.heap.push (emptyS w)).objs.size := by rw [sz]; exact Nat.ne_of_lt (Nat.lt_succ_of_lt lt)
      have n2 : s.heap.objs.size ∉ [(s.heap.push (emptyS w)).objs.size, l] := by
        rw [sz]
        intro m
        rcases List.mem_cons.mp m with z | z
        · exact Nat.succ_ne_self _ z.symm
        · exact Nat.ne_of_gt lt (List.mem_singleton.mp z)
      have val : ∀ (i : Nat) (v : Value), its[i]? = some v → ∃ x u, xs[i]? = some x ∧ v = .str x u := fun i v hv => by
        exact strs_get hin i v (by rw [Array.getElem?_toList]; exact hv)
      refine tx_loop ((Walks.list h3 _ l n1 its).toS) s.heap.objs.size n2 xs size small val
        its.size 0 _ (Nat.zero_add _).symm
        ⟨⟨_, Heap.get?_push_size _ rfl, rfl, rfl⟩, isl1.push _⟩
        ⟨[], Nat.le_refl 0, by simp, _, #[], 0, _, Heap.get?_push_of_some _ at1, ?_, rfl, by simp, .nil, .nil, ?_, ?_, ?_, ?_⟩ fun t' L mv le mm R => ?_
      rotate_right
      · obtain ⟨g, g2, dr, tk, os⟩ := t'
        have eg : g2 = s.gens := mv.gens
        have ed : dr = s.drawn := mv.drawn
        have eo : os = s.os := mv.os
        subst eg ed eo
        rw [size] at le
        show wpAny _ _ _ _ _ _
        refine wpAny_pure ?_
        show wpAny _ _ (ret Value.none) _ _ _
        refine wpAny_pure ⟨rfl, g, tk, L, rfl, R, le, mm, fun b o e => ?_⟩
        have lb : b < s.heap.objs.size := Heap.lt_size e
        refine mv.heap b o (fun m => ?_) (Heap.get?_push_of_some _ (Heap.get?_push_of_some _ e))
        rcases List.mem_cons.mp m with z | z
        · exact Nat.ne_of_lt lb z
        · have := List.mem_singleton.mp z
          rw [sz] at this
          exact Nat.ne_of_lt (Nat.lt_succ_of_lt lb) this
      · exact ⟨rfl, rfl, rfl⟩
      · exact (by decide : 0 < scanBound)
      · rfl
      · exact List.Pairwise.nil
      · show _ ∨ (!w.params.followText "set-order") = true
        cases w.params.followText "set-order"
        · exact .inr rfl
        · exact .inl rfl
    · rcases r2 with e | fl2
      · exact hr2
      cases fl2 with
      | ret r =>
        obtain ⟨rfl, g, tk, L, rfl, h1, h2, h3, h4⟩ := hr2
        repeat (any_goals (first | assumption | wp_step))
        exact q _ _ _ h1 h2 h3 h4
      | _ => exact hr2.elim
  | _ => exact hr.elim
/-- sorted(it) -/
theorem tx_sorted {a : Addr} {L : List Str} {Q : Value → Shared → Prop} (t : TxS w s.heap a L) (h0 : A.handled = none) (h64 : L.length < 64)
    (q : ∀ s' p (out : Array Value) (c : Nat) (ys : List Str), (∀ b o, s.heap.get? b = some o → s'.heap.get? b = some o) → s'.gens = s.gens → s'.os = s.os → s.heap.objs.size ≤ p →
      s'.heap.get? p = some (seqObj "list" out c) → StrsAre out.toList ys → ys.Perm L → PyProof.Rows.sortedS ys = true → Q (.ref p) s') :
    wpAny (model P w) A (call (.builtin "sorted") [.ref a]) Q E s := by
  obtain ⟨ob, arr, ep, tb, e0, ex, ed, g, p, n, b, f, r, l⟩ := t
  have bs : arr.size < scanBound := by rw [tx_size p]; exact b
  refine Calls.call_function_entry kind_sorted plain_sorted entry_sorted (args_sorted1 _) ?_
  unfold Builtin.«sorted»
  refine wpAny_bind (m := checkCount "sorted" 1 1 _) (wpAny_pure ?_)
  refine wpAny_bind (collect_set (A := A.in1) h0 ⟨ob, e0, ex.1, ed⟩ f bs r l fun s1 vs k1 hz g1 o1 pm => ?_)
  have vl : vs.length = L.length := by rw [pm.length_eq, List.length_map, Array.length_toList, tx_size p]
  have mk : ∀ us : List Value, (∀ v ∈ us, ∃ x u, v = Value.str x u) → StrsAre us (us.map fun v => match v with | .str x _ => x | _ => Str.empty) := fun us => by
    induction us with
    | nil => intro _; exact .nil
    | cons v us ih =>
      intro hv
      obtain ⟨x, u, rfl⟩ := hv v List.mem_cons_self
      exact .cons x u (ih fun z m => hv z (List.mem_cons_of_mem _ m))
  have hS := mk vs fun v hv => by
    obtain ⟨e, he, z⟩ := List.mem_map.mp (pm.mem_iff.mp hv)
    obtain ⟨x, u, h1, _⟩ := g e he
    exact ⟨x, u, z ▸ h1⟩
  have pk := pm.map fun v : Value => match v with | .str x _ => x | _ => Str.empty
  rw [List.map_map] at pk
  refine wpAny_bind (wpAny_newList ?_ (by rw [vl, sizeLine_eq]; omega))
  have hoL : (s1.heap.push (seqObj "list" vs.toArray 0)).get? s1.heap.objs.size = some (seqObj "list" vs.toArray 0) := Heap.get?_push_size _ rfl
  refine wpAny_bind (wpAny_holding (wpAny_call_entry slot_list_sort ⟨_, hoL, rfl⟩ entry_list_sort
    (list_sort_treeK strKind_oneLt hoL hS.keysOf (fun v₁ v₂ rest e => keyKind_strs (by rw [← e]; exact hS)) (by rw [vl]; exact h64) fun st hp hs => ⟨_, rfl, ?_⟩)
    (args_list_sort _)))
  obtain ⟨ys, y1, y2, y3⟩ := sorted_out_str hS hp hs
  obtain ⟨c, hc⟩ := sortedHeap_at (vs := vs) (out := (arrOf st).map (·.2)) hoL
  refine wpAny_pure ⟨_, rfl, q _ s1.heap.objs.size _ c ys (fun b' u e => ?_) g1 o1 hz hc y1 ((y2.trans pk).trans p) y3⟩
  have e2 := k1 b' u e
  have lt := Heap.lt_size e2
  show (sortedHeap (s1.heap.push (seqObj "list" vs.toArray 0)) s1.heap.objs.size vs _).get? b' = some u
  rw [sortedHeap_old (Nat.ne_of_lt lt) (by rw [size_push']; exact Nat.lt_succ_of_lt lt)]
  exact Heap.get?_push_of_some _ e2
end
/-- the set of texts at a -/
def TxO (w : World) (a : Addr) (L : List Str) : HO := .ext fun h => TxS w h a L
def rSetT (K : PySem.W.Frag) (w : World) : List V → Hp → VK → Prop := fun xs H Q => ∃ (p : Addr) (ns : List Str), xs = [.ref p] ∧ SqL K H p (ns.map V.str) ∧ ns.length ≤ 1000 ∧
  ∀ a L, H a = none → L.length ≤ ns.length → (∀ x, x ∈ L ↔ x ∈ ns) → Q (.ref a) (upd H a (TxO w a L))
theorem cr_setT {X : Cx} (hc : X.calm = true) : CallR X (.type "set") (rSetT X.K X.w) := by
  intro pins s σ H xs us Q I r h
  obtain ⟨p, ns, rfl, hq, hl, q⟩ := h
  obtain ⟨u, rfl, rx⟩ := vals1 r
  cases rx
  obtain ⟨its, rv, pl, hz⟩ := I.list hq
  refine tx_of ns (I.ok.hd hc) pl.isList (by simpa using Vals.strs rv) (by unfold scanBound; omega) fun g tk L R le mm k => ?_
  have ob : ObjOk X.prog X.w (upd H s.heap.objs.size (TxO X.w s.heap.objs.size L)) g s.heap.objs.size (TxO X.w s.heap.objs.size L) := by
    have ⟨o, _, _, _, ho, _⟩ := R
    exact ⟨R, ⟨o, ho⟩, fun h1 h2 p k => TxS.to p k⟩
  exact ⟨.ref s.heap.objs.size, _, I.laid (t' := tk) k (Nat.le_refl _) ob, rfl, q _ L (I.hok.fresh (Nat.le_refl _)) le mm⟩
end Vf

namespace Vf
open PySem L2 PySem.Spec PyProof.Rows He
def rSortT (w : World) : List V → Hp → VK → Prop := fun vs H Q => ∃ (a : Addr) (L : List Str), vs = [V.ref a] ∧ H a = some (TxO w a L) ∧ L.length < 64 ∧
  ∀ (ys : List Str) (p : Addr), L.Nodup → ys.Perm L → PyProof.Rows.sortedS ys = true → H p = none → Q (.ref p) (upd H p (.lst (ys.map V.str)))
theorem cr_sortedT {X : Cx} (hc : X.calm = true) : CallR X (.builtin "sorted") (rSortT X.w) := by
  intro pins s σ H vs us Q I r h
  obtain ⟨a, L, rfl, ha, h64, q⟩ := h
  have R : TxS X.w s.heap a L := (I.hok a _ ha).1
  have nd : L.Nodup := let ⟨_, _, _, _, _, _, _, _, _, n, _⟩ := R; n
  rw [Vals.ref1 r]
  refine tx_sorted R (I.ok.hd hc) h64 fun s' p out c ys k g o hp hg hi hm hs => ?_
  have len : (ys.map V.str).length ≤ sizeLine := by rw [List.length_map, hm.length_eq, sizeLine_eq]; omega
  have hn : H p = none := I.hok.fresh hp
  have J : Inv X pins σ (upd H p (.lst (ys.map V.str))) { s with heap := s'.heap, gens := s'.gens, drawn := s'.drawn, toks := s'.toks } :=
    I.call (ch := []) (Un.laid k hp hn) (I.hok.laid k hp ⟨len, out.toList, c, vals_of_strs hi, hg⟩) (by rw [g]; exact I.bare) (fun _ z => nomatch z)
  have e : s' = { s with heap := s'.heap, gens := s'.gens, drawn := s'.drawn, toks := s'.toks } := by
    obtain ⟨_, _, _, _, _⟩ := s'
    obtain ⟨_, _, _, _, _⟩ := s
    cases o
    rfl
  rw [e]
  exact ⟨.ref p, _, J, rfl, q ys p nd hm hs hn⟩
/-- xs.remove(y): the first equal one goes -/
def rRemD (K : PySem.W.Frag) : V → List V → Hp → VK → Prop := fun x vs H Q => ∃ (l : Addr) (y : V) (xs : List V) (d : PyData) (ds : List PyData) (j : Nat) (z : PyData), x = .ref l ∧ vs = [y] ∧ H l = some (.lst xs) ∧ DpAll K H xs ds ∧ Dp K H y d ∧
  SeqAt.shaped (.list ds) = true ∧ SeqAt.shaped d = true ∧ ds[j]? = some z ∧ PyData.eqv z d = true ∧ (∀ (m : Nat) (z' : PyData), m < j → ds[m]? = some z' → PyData.eqv z' d = false) ∧ Q .non (upd H l (.lst (xs.eraseIdx j)))
theorem mt_removeD {X : Cx} (hu : X.A.units + 65 < cLine) : MtM X "list.remove" (rRemD X.K) := by
  intro pins s σ H x vs v us Q I rx rv h
  obtain ⟨l, y, xs, d, ds, j, z, rfl, rfl, hH, hds, hy, sl, sd, hz, hzj, hno, q⟩ := h
  cases rx
  obtain ⟨uy, rfl, ry⟩ := rv.one
  obtain ⟨bs, r1⟩ := Dp.reads I d y uy hy ry
  obtain ⟨zl, its, n, r, hl, e⟩ := I.lstM hH
  obtain ⟨as, r2⟩ := Dp.readsAll I ds xs its hds r
  have can : PyData.canLayAll0 ds = true := SeqAt.canLay_of_shaped sl
  have rm : X.A.units + 1 + min (PyData.depthAll ds) d.depth < cLine := room_in_shaped sd hu
  have n1 : its.length = ds.length := SeqAt.ReadsAll.length ds its as r2
  have mp : its.map (SeqAt.readOf s.heap) = ds := SeqAt.readsAll_map ds its as can r2
  have jd : j < ds.length := (List.getElem?_eq_some_iff.mp hz).1
  have hj : j < its.toArray.size := by rw [List.size_toArray]; omega
  have see : ∀ (m : Nat) (hm : m < its.toArray.size) (z' : PyData), ds[m]? = some z' → SeqAt.readOf s.heap its.toArray[m] = z' := fun m hm z' e1 => by
    have hm2 : m < its.length := by rw [List.size_toArray] at hm; exact hm
    rw [← mp, List.getElem?_map, List.getElem?_eq_getElem hm2] at e1
    simpa using Option.some.inj e1
  have sl9 := sizeLine_eq
  refine call_meets PySem.F.slot_list_remove ⟨_, e, rfl⟩ PySem.F.entry_list_remove (PySem.F.args_list_remove_2 _ _)
    (SeqAt.list_removeAt l its.toArray n _ _ uy (fun u => PyData.eqv (SeqAt.readOf s.heap u) d) j hj ?_ ?_ (by rw [List.size_toArray]; omega))
    ⟨e, SeqAt.items_eqAt (vs := its.toArray) (show ReadsAll s.heap its.toArray.toList ds as from r2) r1 can (SeqAt.canLay_of_shaped sd) rm, ?_⟩
  · show PyData.eqv (SeqAt.readOf s.heap its.toArray[j]) d = true
    rw [see j hj z hz]; exact hzj
  · intro m hm lt
    have md : m < ds.length := by omega
    show PyData.eqv (SeqAt.readOf s.heap its.toArray[m]) d = false
    rw [see m hm _ (List.getElem?_eq_getElem md)]
    exact hno m _ lt (List.getElem?_eq_getElem md)
  · refine ⟨.non, _, I.lset (its' := its.eraseIdx j) (t' := s.toks) hH e ?_ (r.eraseIdx j) ?_, rfl, q⟩
    · show its.toArray.eraseIdxIfInBounds j = (its.eraseIdx j).toArray
      rw [List.eraseIdxIfInBounds_toArray]
    · have := len_erase xs j
      omega
end Vf
namespace Vf
open PySem L2 PySem.Spec PyProof.Rows He
theorem ePK (K : PySem.W.Frag) {X : Cx} (hu : X.A.units + 64 < cLine) (hK : X.K = K := by rfl) : OpR X (compareOp .Eq) (rEqP K) := hK ▸ op_eqP hu
theorem nPK (K : PySem.W.Frag) {X : Cx} (hu : X.A.units + 64 < cLine) (hK : X.K = K := by rfl) : OpR X (compareOp .NotEq) (rNeP K) := hK ▸ op_neP hu
end Vf

/-! for k, (a, b) in enumerate(zip(s, t)): two tuples. The pairs are let go by nobody: the zip then knows of one that is out. -/
namespace Vf
open PySem L2 PySem.Spec PyProof.Rows He RZ
abbrev ZSt (h : Heap) (z TI TO : Addr) (own : Value) (f : Bool) : Prop := h.get? z = some { slots := #[], data := .fields #[own, .bool f, .bool false, .ref TI, .ref TO], dict := none, cls := .type "zip" }
def OwnOk (own : Value) : Prop := own = .none ∨ ∃ T : Addr, own = rawInt T
section
variable {P : Program} {w : World} {A : Around} {E : Value → Shared → Prop} {s : Shared} {z TI TO : Addr} {own : Value} {f : Bool}
theorem z_free (hz : ZSt s.heap z TI TO own f) (ho : OwnOk own) {Q : Bool → Shared → Prop} (q : ∀ (b : Bool) (g : Heap) (f' : Bool), ZSt g z TI TO own f' → Heap.SameBut z s.heap g → Q b { s with heap := g }) :
    wpAny (model P w) A (Builtin.SmallTypes.ownedTupleIsFree (.ref z)) Q E s := by
  unfold Builtin.SmallTypes.ownedTupleIsFree
  rcases ho with rfl | ⟨T, rfl⟩
  · exact wpAny_bind (wpAny_field hz rfl (x := .none) rfl (wpAny_pure (q true s.heap f hz (Heap.SameBut.refl _ _))))
  · refine wpAny_bind (wpAny_field hz rfl (x := rawInt T) rfl ?_)
    show wpAny _ _ (loadIfAlive ((T : Int).toNat) >>= _) _ _ _
    refine wpAny_bind ?_
    have al : ∀ {R : Option Obj → Shared → Prop}, R (s.heap.get? (T : Int).toNat) s → wpAny (model P w) A (loadIfAlive ((T : Int).toNat)) R E s := by
      intro R h
      exact fun _ _ _ => h
    refine al ?_
    cases hT : s.heap.get? (T : Int).toNat with
    | none => exact wpAny_pure (q true s.heap f hz (Heap.SameBut.refl _ _))
    | some o =>
      simp only [Option.isNone_some, Bool.false_eq_true, if_false]
      refine wpAny_bind (wpAny_field hz rfl (x := .bool f) rfl ?_)
      cases f with
      | true =>
        rw [if_neg (show ¬ ((Value.bool true != Value.bool true) = true) from Bool.false_ne_true)]
        exact wpAny_pure (q false s.heap true hz (Heap.SameBut.refl _ _))
      | false =>
        rw [if_pos (show (Value.bool false != Value.bool true) = true from rfl)]
        exact wpAny_bind (wpAny_setField_rec hz (by simp) fun g hg sg => wpAny_pure (q false g true hg sg))
/-- what is apart -/
theorem z_item {i1 i2 l1 l2 : Addr} {k : Nat} {xs ys : Array Value} {x y c d : Value} {Q : Value → Shared → Prop} (D : ZipApart z TI TO i1 i2 l1 l2) (hz : ZSt s.heap z TI TO own f) (ho : OwnOk own)
    (hI : IsPair s.heap TI (.ref i1) (.ref i2)) (hO : IsPair s.heap TO c d) (t1 : s.heap.IsTupleIter i1 l1 k) (t2 : s.heap.IsTupleIter i2 l2 k)
    (r1 : s.heap.IsTuple l1 xs) (r2 : s.heap.IsTuple l2 ys) (ex : xs[k]? = some x) (ey : ys[k]? = some y)
    (q : ∀ (g : Heap) (own' : Value) (f' : Bool) (c' d' : Value), ZSt g z TI TO own' f' → OwnOk own' → IsPair g TO c' d' → g.IsTupleIter i1 l1 (k + 1) → g.IsTupleIter i2 l2 (k + 1) → IsPair g s.heap.objs.size x y → g.objs.size = s.heap.objs.size + 1 →
      (∀ b o, b ≠ z → b ≠ TO → b ≠ i1 → b ≠ i2 → s.heap.get? b = some o → g.get? b = some o) → Q (.ref s.heap.objs.size) { s with heap := g }) :
    wpAny (model P w) A (Builtin.SmallTypes.nextOf (.ref z)) Q E s := by
  have ty : s.TypeIs (.ref z) "zip" := ⟨_, hz, rfl⟩
  unfold Builtin.SmallTypes.nextOf
  refine wpAny_bind (wpAny_callSpecial?_slot (name := Str.ofString "__next__") ty F.slot_zip_next (wpAny_call_entry F.slot_zip_next ty F.entry_zip_next ?_ (F.args_zip_next_1 _)))
  show wpAny _ _ (field (.ref z) 2 >>= _) _ _ _
  refine wpAny_bind (wpAny_field hz rfl (x := .bool false) rfl ?_)
  show wpAny _ _ (field (.ref z) 3 >>= _) _ _ _
  refine wpAny_bind (wpAny_field hz rfl (x := .ref TI) rfl ?_)
  refine wpAny_bind (wpAny_seqItems hI rfl ?_)
  show wpAny _ _ (Builtin.SmallTypes.ownedTupleIsFree (.ref z) >>= _) _ _ _
  refine wpAny_bind (z_free hz ho fun b g1 f1 z1 s1 => ?_)
  have t1a := t1.extBut s1.extBut D.i1z
  have t2a := t2.extBut s1.extBut D.i2z
  have r1a := r1.extBut s1.extBut D.l1z
  have r2a := r2.extBut s1.extBut D.l2z
  have oa : IsPair g1 TO c d := s1.extBut _ _ D.TOz hO
  cases b with
  | true =>
    simp only [if_true]
    refine wpAny_bind (wpAny_rule ?_)
    refine wpAny_bind (wpAny_field z1 rfl (x := .ref TO) rfl ?_)
    refine wpAny_bind (wpAny_setField_rec z1 (by simp) fun g2 z2 s2 => ?_)
    replace z2 : ZSt g2 z TI TO .ellipsis f1 := z2
    refine wpAny_bind ?_
    simp only [List.zipIdx_cons, List.zipIdx_nil, List.forIn_cons, List.forIn_nil]
    refine wpAny_bind (wpAny_bind (wpAny_onRaise ?_))
    show wpAny _ _ (Builtin.SmallTypes.nextOf (.ref i1) >>= _) _ _ _
    refine wpAny_bind (nextOf_tuple_item (t1a.extBut s2.extBut D.i1z) (r1a.extBut s2.extBut D.l1z) ex fun g3 t1b s3 => wpAny_pure ?_)
    have ob : IsPair g3 TO c d := s3.extBut _ _ D.TOi1 (s2.extBut _ _ D.TOz oa)
    refine wpAny_bind (wpAny_seqItems ob rfl ?_)
    refine wpAny_bind (wpAny_updateSeq_pair ob fun g4 oc s4 => ?_)
    replace oc : IsPair g4 TO x d := oc
    refine wpAny_bind (wpAny_letGo (wpAny_pure ?_))
    refine wpAny_bind (wpAny_bind (wpAny_onRaise ?_))
    show wpAny _ _ (Builtin.SmallTypes.nextOf (.ref i2) >>= _) _ _ _
    refine wpAny_bind (nextOf_tuple_item (((t2a.extBut s2.extBut D.i2z).extBut s3.extBut D.i12.symm).extBut s4.extBut D.TOi2.symm) (((r2a.extBut s2.extBut D.l2z).extBut s3.extBut D.l2i1).extBut s4.extBut D.l2TO) ey fun g5 t2b s5 => wpAny_pure ?_)
    have od : IsPair g5 TO x d := s5.extBut _ _ D.TOi2 oc
    refine wpAny_bind (wpAny_seqItems od rfl ?_)
    refine wpAny_bind (wpAny_updateSeq_pair od fun g6 oe s6 => ?_)
    replace oe : IsPair g6 TO x y := oe
    refine wpAny_bind (wpAny_letGo (wpAny_pure (wpAny_pure ?_)))
    refine wpAny_bind (wpAny_seqItems oe rfl ?_)
    refine wpAny_bind (wpAny_newTuple ?_)
    have size : g6.objs.size = s.heap.objs.size := by rw [s6.1, s5.1, s4.1, s3.1, s2.1, s1.1]
    have z6 : ZSt g6 z TI TO .ellipsis f1 := s6.extBut _ _ D.TOz.symm (s5.extBut _ _ D.i2z.symm (s4.extBut _ _ D.TOz.symm (s3.extBut _ _ D.i1z.symm z2)))
    have k6 : ∀ b o, b ≠ z → b ≠ TO → b ≠ i1 → b ≠ i2 → s.heap.get? b = some o → g6.get? b = some o := fun b o n1 n2 n3 n4 e => s6.extBut _ _ n2 (s5.extBut _ _ n4 (s4.extBut _ _ n2 (s3.extBut _ _ n3 (s2.extBut _ _ n1 (s1.extBut _ _ n1 e)))))
    have t16 : g6.IsTupleIter i1 l1 (k + 1) := ((t1b.extBut s4.extBut D.TOi1.symm).extBut s5.extBut D.i12).extBut s6.extBut D.TOi1.symm
    have t26 : g6.IsTupleIter i2 l2 (k + 1) := t2b.extBut s6.extBut D.TOi2.symm
    have zl : z < g6.objs.size := Heap.lt_size z6
    show wpAny _ _ (Builtin.SmallTypes.ownedTupleHandOut (.ref z) (.ref g6.objs.size) >>= _) _ _ _
    refine wpAny_bind ?_
    unfold Builtin.SmallTypes.ownedTupleHandOut
    have z7 : ZSt (g6.push { cls := .type "tuple", data := .seq #[x, y] }) z TI TO .ellipsis f1 := Heap.get?_push_of_some _ z6
    refine wpAny_bind (wpAny_setField_rec z7 (by simp) fun g8 z8 s8 => ?_)
    replace z8 : ZSt g8 z TI TO (rawInt g6.objs.size) f1 := z8
    refine wpAny_setField_rec z8 (by simp) fun g9 z9 s9 => ?_
    replace z9 : ZSt g9 z TI TO (rawInt g6.objs.size) false := z9
    have up : ∀ b o, b ≠ z → g6.get? b = some o → g9.get? b = some o := fun b o n e => s9.extBut _ _ n (s8.extBut _ _ n (Heap.get?_push_of_some _ e))
    have p9 : IsPair g9 g6.objs.size x y := s9.extBut _ _ (Nat.ne_of_gt zl) (s8.extBut _ _ (Nat.ne_of_gt zl) (Heap.get?_push_size _ rfl))
    have size9 : g9.objs.size = g6.objs.size + 1 := by rw [s9.1, s8.1, Heap.size_push]
    rw [size] at z9 p9 size9
    refine wpAny_pure ⟨_, rfl, wpAny_pure ?_⟩
    show Q (.ref g6.objs.size) _
    rw [size]
    exact q g9 _ _ _ _ z9 (.inr ⟨_, rfl⟩) (up _ _ D.TOz oe) (t16.at fun o e => up _ o D.i1z e) (t26.at fun o e => up _ o D.i2z e) p9 size9 fun b o n1 n2 n3 n4 e => up b o n1 (k6 b o n1 n2 n3 n4 e)
  | false =>
    simp only [Bool.false_eq_true, if_false]
    refine wpAny_bind ?_
    rw [← Array.forIn_toList]
    simp only [List.forIn_cons, List.forIn_nil]
    refine wpAny_bind (wpAny_bind (wpAny_holding ?_))
    show wpAny _ _ (Builtin.SmallTypes.nextOf (.ref i1) >>= _) _ _ _
    refine wpAny_bind (nextOf_tuple_item t1a r1a ex fun g3 t1b s3 => wpAny_pure ?_)
    refine wpAny_pure ?_
    refine wpAny_bind (wpAny_bind (wpAny_holding ?_))
    show wpAny _ _ (Builtin.SmallTypes.nextOf (.ref i2) >>= _) _ _ _
    refine wpAny_bind (nextOf_tuple_item (t2a.extBut s3.extBut D.i12.symm) (r2a.extBut s3.extBut D.l2i1) ey fun g5 t2b s5 => wpAny_pure ?_)
    refine wpAny_pure (wpAny_pure ?_)
    show wpAny _ _ (newTuple [x, y] >>= _) _ _ _
    refine wpAny_bind (wpAny_newTuple ?_)
    have size : g5.objs.size = s.heap.objs.size := by rw [s5.1, s3.1, s1.1]
    have z5 : ZSt g5 z TI TO own f1 := s5.extBut _ _ D.i2z.symm (s3.extBut _ _ D.i1z.symm z1)
    have o5 : IsPair g5 TO c d := s5.extBut _ _ D.TOi2 (s3.extBut _ _ D.TOi1 oa)
    have k5 : ∀ b o, b ≠ z → b ≠ i1 → b ≠ i2 → s.heap.get? b = some o → g5.get? b = some o := fun b o n1 n3 n4 e => s5.extBut _ _ n4 (s3.extBut _ _ n3 (s1.extBut _ _ n1 e))
    have t15 : g5.IsTupleIter i1 l1 (k + 1) := t1b.extBut s5.extBut D.i12
    have p9 : IsPair (g5.push { cls := .type "tuple", data := .seq #[x, y] }) g5.objs.size x y := Heap.get?_push_size _ rfl
    have size9 : (g5.push { cls := .type "tuple", data := .seq #[x, y] }).objs.size = g5.objs.size + 1 := Heap.size_push ..
    refine wpAny_pure ⟨_, rfl, wpAny_pure ?_⟩
    show Q (.ref g5.objs.size) _
    rw [size] at p9 size9 ⊢
    exact q _ _ _ _ _ (Heap.get?_push_of_some _ z5) ho (Heap.get?_push_of_some _ o5) (t15.at fun o e => Heap.get?_push_of_some _ e) (t2b.at fun o e => Heap.get?_push_of_some _ e) p9 size9 fun b o n1 _ n3 n4 e => Heap.get?_push_of_some _ (k5 b o n1 n3 n4 e)
/-- nothing is left -/
theorem z_end {i1 i2 l1 l2 : Addr} {k : Nat} {xs ys : Array Value} {c d : Value} {Q : Value → Shared → Prop} (h0 : A.handled = none) (D : ZipApart z TI TO i1 i2 l1 l2) (hz : ZSt s.heap z TI TO own f) (ho : OwnOk own)
    (hI : IsPair s.heap TI (.ref i1) (.ref i2)) (hO : IsPair s.heap TO c d) (t1 : s.heap.IsTupleIter i1 l1 k) (t2 : s.heap.IsTupleIter i2 l2 k)
    (r1 : s.heap.IsTuple l1 xs) (r2 : s.heap.IsTuple l2 ys) (ends : xs[k]? = none ∨ ys[k]? = none)
    (q : ∀ (g : Heap) (x : Addr), (∀ b o, b ≠ z → b ≠ TO → b ≠ i1 → b ≠ i2 → s.heap.get? b = some o → g.get? b = some o) → (∃ o, g.get? x = some o ∧ o.cls = .type "StopIteration") → E (.ref x) { s with heap := g }) :
    wpAny (model P w) A (Builtin.SmallTypes.nextOf (.ref z)) Q E s := by
  have ty : s.TypeIs (.ref z) "zip" := ⟨_, hz, rfl⟩
  unfold Builtin.SmallTypes.nextOf
  refine wpAny_bind (wpAny_callSpecial?_slot (name := Str.ofString "__next__") ty F.slot_zip_next (wpAny_call_entry F.slot_zip_next ty F.entry_zip_next ?_ (F.args_zip_next_1 _)))
  show wpAny _ _ (field (.ref z) 2 >>= _) _ _ _
  refine wpAny_bind (wpAny_field hz rfl (x := .bool false) rfl ?_)
  show wpAny _ _ (field (.ref z) 3 >>= _) _ _ _
  refine wpAny_bind (wpAny_field hz rfl (x := .ref TI) rfl ?_)
  refine wpAny_bind (wpAny_seqItems hI rfl ?_)
  show wpAny _ _ (Builtin.SmallTypes.ownedTupleIsFree (.ref z) >>= _) _ _ _
  refine wpAny_bind (z_free hz ho fun b g1 f1 z1 s1 => ?_)
  have t1a := t1.extBut s1.extBut D.i1z
  have t2a := t2.extBut s1.extBut D.i2z
  have r1a := r1.extBut s1.extBut D.l1z
  have r2a := r2.extBut s1.extBut D.l2z
  have oa : IsPair g1 TO c d := s1.extBut _ _ D.TOz hO
  cases b with
  | true =>
    simp only [if_true]
    refine wpAny_bind (wpAny_rule ?_)
    refine wpAny_bind (wpAny_field z1 rfl (x := .ref TO) rfl ?_)
    refine wpAny_bind (wpAny_setField_rec z1 (by simp) fun g2 z2 s2 => ?_)
    replace z2 : ZSt g2 z TI TO .ellipsis f1 := z2
    refine wpAny_bind ?_
    simp only [List.zipIdx_cons, List.zipIdx_nil, List.forIn_cons, List.forIn_nil]
    refine wpAny_bind (wpAny_bind (wpAny_onRaise ?_))
    show wpAny _ _ (Builtin.SmallTypes.nextOf (.ref i1) >>= _) _ _ _
    cases ex : xs[k]? with
    | none =>
      refine wpAny_bind (nextOf_tuple_end h0 (t1a.extBut s2.extBut D.i1z) (r1a.extBut s2.extBut D.l1z) ex fun g3 er s3 ⟨oe, e1, e2⟩ => ?_)
      have z3 : ZSt g3 z TI TO .ellipsis f1 := s3 _ _ D.i1z.symm z2
      have ne : er ≠ z := fun h => by subst h; rw [z3] at e1; cases e1; simp at e2
      refine wpAny_setField_rec z3 (by simp) fun g4 _ s4 => q g4 er (fun b o n1 n2 n3 n4 e => s4.extBut _ _ n1 (s3 _ _ n3 (s2.extBut _ _ n1 (s1.extBut _ _ n1 e)))) ⟨oe, s4.extBut _ _ ne e1, e2⟩
    | some x =>
      have ey : ys[k]? = none := ends.resolve_left (by rw [ex]; exact fun z => nomatch z)
      refine wpAny_bind (nextOf_tuple_item (t1a.extBut s2.extBut D.i1z) (r1a.extBut s2.extBut D.l1z) ex fun g3 t1b s3 => wpAny_pure ?_)
      have ob : IsPair g3 TO c d := s3.extBut _ _ D.TOi1 (s2.extBut _ _ D.TOz oa)
      refine wpAny_bind (wpAny_seqItems ob rfl ?_)
      refine wpAny_bind (wpAny_updateSeq_pair ob fun g4 oc s4 => ?_)
      refine wpAny_bind (wpAny_letGo (wpAny_pure ?_))
      refine wpAny_bind (wpAny_bind (wpAny_onRaise ?_))
      show wpAny _ _ (Builtin.SmallTypes.nextOf (.ref i2) >>= _) _ _ _
      refine wpAny_bind (nextOf_tuple_end h0 (((t2a.extBut s2.extBut D.i2z).extBut s3.extBut D.i12.symm).extBut s4.extBut D.TOi2.symm) (((r2a.extBut s2.extBut D.l2z).extBut s3.extBut D.l2i1).extBut s4.extBut D.l2TO) ey fun g5 er s5 ⟨oe, e1, e2⟩ => ?_)
      have z5 : ZSt g5 z TI TO .ellipsis f1 := s5 _ _ D.i2z.symm (s4.extBut _ _ D.TOz.symm (s3.extBut _ _ D.i1z.symm z2))
      have ne : er ≠ z := fun h => by subst h; rw [z5] at e1; cases e1; simp at e2
      refine wpAny_setField_rec z5 (by simp) fun g6 _ s6 => q g6 er (fun b o n1 n2 n3 n4 e => s6.extBut _ _ n1 (s5 _ _ n4 (s4.extBut _ _ n2 (s3.extBut _ _ n3 (s2.extBut _ _ n1 (s1.extBut _ _ n1 e)))))) ⟨oe, s6.extBut _ _ ne e1, e2⟩
  | false =>
    simp only [Bool.false_eq_true, if_false]
    refine wpAny_bind ?_
    rw [← Array.forIn_toList]
    simp only [List.forIn_cons, List.forIn_nil]
    refine wpAny_bind (wpAny_bind (wpAny_holding ?_))
    show wpAny _ _ (Builtin.SmallTypes.nextOf (.ref i1) >>= _) _ _ _
    cases ex : xs[k]? with
    | none =>
      exact wpAny_bind (nextOf_tuple_end h0 t1a r1a ex fun g3 er s3 he => q g3 er (fun b o n1 n2 n3 n4 e => s3 _ _ n3 (s1.extBut _ _ n1 e)) he)
    | some x =>
      have ey : ys[k]? = none := ends.resolve_left (by rw [ex]; exact fun z => nomatch z)
      refine wpAny_bind (nextOf_tuple_item t1a r1a ex fun g3 t1b s3 => wpAny_pure ?_)
      refine wpAny_pure ?_
      refine wpAny_bind (wpAny_bind (wpAny_holding ?_))
      show wpAny _ _ (Builtin.SmallTypes.nextOf (.ref i2) >>= _) _ _ _
      exact wpAny_bind (nextOf_tuple_end h0 (t2a.extBut s3.extBut D.i12.symm) (r2a.extBut s3.extBut D.l2i1) ey fun g5 er s5 he => q g5 er (fun b o n1 n2 n3 n4 e => s5 _ _ n4 (s3.extBut _ _ n3 (s1.extBut _ _ n1 e))) he)
/-- the next one told: its pair first, then the pair of its number and that -/
theorem ez_item {e i1 i2 l1 l2 : Addr} {k : Nat} {xs ys : Array Value} {x y c d prev : Value} {Q : Option Value → Shared → Prop} (D : ZipApart z TI TO i1 i2 l1 l2) (he : IsEnum s.heap e z (k : Int) prev) (hz : ZSt s.heap z TI TO own f) (ho : OwnOk own)
    (n1 : e ≠ z) (n2 : e ≠ TO) (n3 : e ≠ i1) (n4 : e ≠ i2) (n5 : e ≠ TI)
    (hI : IsPair s.heap TI (.ref i1) (.ref i2)) (hO : IsPair s.heap TO c d) (t1 : s.heap.IsTupleIter i1 l1 k) (t2 : s.heap.IsTupleIter i2 l2 k)
    (r1 : s.heap.IsTuple l1 xs) (r2 : s.heap.IsTuple l2 ys) (ex : xs[k]? = some x) (ey : ys[k]? = some y)
    (q : ∀ (g g' : Heap) (tk : Nat) (own' : Value) (f' : Bool) (c' d' v : Value), IsPair g s.heap.objs.size x y → g.objs.size = s.heap.objs.size + 1 → (∀ b o, b ≠ z → b ≠ TO → b ≠ i1 → b ≠ i2 → s.heap.get? b = some o → g.get? b = some o) →
      (∀ b o, b ≠ e → g.get? b = some o → g'.get? b = some o) → IsEnumOut g' e z ((k : Int) + 1) v (s.heap.objs.size + 1) → ZSt g' z TI TO own' f' → OwnOk own' → IsPair g' TO c' d' → g'.IsTupleIter i1 l1 (k + 1) → g'.IsTupleIter i2 l2 (k + 1) →
      (∃ tt, IsPair g' (s.heap.objs.size + 1) (.int k tt) (.ref s.heap.objs.size)) → Q (some (.ref (s.heap.objs.size + 1))) { s with heap := g', toks := tk }) :
    wpAny (model P w) A (pyNext (.ref e)) Q E s := by
  have ty : s.TypeIs (.ref e) "enumerate" := ⟨_, he, rfl⟩
  unfold pyNext
  refine wpAny_bind (wpAny_attempt (wpAny_callSpecial?_slot (name := Str.ofString "__next__") ty F.slot_enumerate_next (wpAny_call_entry F.slot_enumerate_next ty F.entry_enumerate_next ?_ (F.args_enumerate_next_1 _))))
  show wpAny (model P w) A.in1 (field (.ref e) 2 >>= _) _ _ s
  refine wpAny_bind (wpAny_field he rfl (x := .ref z) rfl ?_)
  refine wpAny_bind (z_item D hz ho hI hO t1 t2 r1 r2 ex ey fun g own' f' c' d' z' oo po a1 a2 pn size keep => ?_)
  obtain ⟨hp, gs, dr, tk, os⟩ := s
  dsimp only at he pn size keep q ⊢
  have e1 : IsEnum g e z (k : Int) prev := keep e _ n1 n2 n3 n4 he
  have el : e < hp.objs.size := Heap.lt_size he
  show wpAny _ _ (field (.ref e) 3 >>= _) _ _ ⟨g, gs, dr, tk, os⟩
  refine wpAny_bind (wpAny_field e1 rfl (x := rawInt k) rfl ?_)
  show wpAny _ _ (field (.ref e) 4 >>= _) _ _ ⟨g, gs, dr, tk, os⟩
  refine wpAny_bind (wpAny_field e1 rfl (x := .none) rfl ?_)
  show wpAny _ _ (mkInt k >>= _) _ _ ⟨g, gs, dr, tk, os⟩
  refine wpAny_bind (wpAny_mkInt ?_)
  show wpAny _ _ (setField (.ref e) 3 (rawInt ((k : Int) + 1)) >>= _) _ _ ⟨g, gs, dr, tk + 1, os⟩
  refine wpAny_bind (wpAny_setField_rec e1 (by simp) fun g2 e2 s2 => ?_)
  replace s2 : Heap.SameBut e g g2 := s2
  replace e2 : IsEnum g2 e z ((k : Int) + 1) prev := e2
  show wpAny _ _ (setField (.ref e) 4 .none >>= _) _ _ ⟨g2, gs, dr, tk + 1, os⟩
  refine wpAny_bind (wpAny_setField_rec e2 (by simp) fun g3 e3 s3 => ?_)
  replace s3 : Heap.SameBut e g2 g3 := s3
  replace e3 : IsEnum g3 e z ((k : Int) + 1) prev := e3
  show wpAny _ _ (newTuple [.int k tk, .ref hp.objs.size] >>= _) _ _ ⟨g3, gs, dr, tk + 1, os⟩
  refine wpAny_bind (wpAny_newTuple ?_)
  have size3 : g3.objs.size = hp.objs.size + 1 := by rw [s3.1, s2.1, size]
  have e4 : IsEnum (g3.push { cls := .type "tuple", data := .seq #[.int k tk, .ref hp.objs.size] }) e z ((k : Int) + 1) prev := Heap.get?_push_of_some _ e3
  have p4 : IsPair (g3.push { cls := .type "tuple", data := .seq #[.int k tk, .ref hp.objs.size] }) (hp.objs.size + 1) (.int k tk) (.ref hp.objs.size) := by rw [← size3]; exact Heap.get?_push_size _ rfl
  have k4 : ∀ b o, b ≠ e → g.get? b = some o → (g3.push { cls := .type "tuple", data := .seq #[.int k tk, .ref hp.objs.size] }).get? b = some o := fun b o n h => Heap.get?_push_of_some _ (s3.extBut b o n (s2.extBut b o n h))
  generalize g3.push { cls := .type "tuple", data := .seq #[.int k tk, .ref hp.objs.size] } = g4 at e4 p4 k4
  show wpAny _ _ (Builtin.SmallTypes.ownedTupleIsFree (.ref e) >>= _) _ _ ⟨g4, gs, dr, tk + 1, os⟩
  rw [size3]
  refine wpAny_bind ?_
  unfold Builtin.SmallTypes.ownedTupleIsFree
  refine wpAny_bind (wpAny_field e4 rfl (x := .none) rfl (wpAny_pure ?_))
  simp only [if_true]
  refine wpAny_bind (wpAny_rule ?_)
  refine wpAny_bind (wpAny_field e4 rfl (x := prev) rfl ?_)
  refine wpAny_bind (wpAny_setField_rec e4 (by simp) fun g5 e5 s5 => ?_)
  replace s5 : Heap.SameBut e g4 g5 := s5
  replace e5 : IsEnum g5 e z ((k : Int) + 1) (.ref hp.objs.size) := e5
  show wpAny _ _ (Builtin.SmallTypes.ownedTupleHandOut (.ref e) (.ref (hp.objs.size + 1)) >>= _) _ _ ⟨g5, gs, dr, tk + 1, os⟩
  refine wpAny_bind ?_
  unfold Builtin.SmallTypes.ownedTupleHandOut
  refine wpAny_bind (wpAny_setField_rec e5 (by simp) fun g6 e6 s6 => ?_)
  replace s6 : Heap.SameBut e g5 g6 := s6
  replace e6 : IsEnumOut g6 e z ((k : Int) + 1) (.ref hp.objs.size) (hp.objs.size + 1) := e6
  refine wpAny_setField_rec e6 (by simp) fun g7 e7 s7 => ?_
  replace s7 : Heap.SameBut e g6 g7 := s7
  replace e7 : IsEnumOut g7 e z ((k : Int) + 1) (.ref hp.objs.size) (hp.objs.size + 1) := e7
  have k7 : ∀ b o, b ≠ e → g4.get? b = some o → g7.get? b = some o := fun b o n h => s7.extBut b o n (s6.extBut b o n (s5.extBut b o n h))
  have up : ∀ b o, b ≠ e → g.get? b = some o → g7.get? b = some o := fun b o n h => k7 b o n (k4 b o n h)
  refine wpAny_bind (wpAny_letGo (wpAny_pure ⟨_, rfl, wpAny_pure (q g g7 (tk + 1) own' f' c' d' _ pn size keep up e7 (up _ _ (Ne.symm n1) z') oo (up _ _ (Ne.symm n2) po) (a1.at fun o h => up _ o (Ne.symm n3) h) (a2.at fun o h => up _ o (Ne.symm n4) h) ⟨tk, k7 _ _ ?_ p4⟩)⟩))
  exact Nat.ne_of_gt (Nat.lt_succ_of_lt el)
theorem ez_end {e i1 i2 l1 l2 : Addr} {k : Nat} {xs ys : Array Value} {c d prev : Value} {Q : Option Value → Shared → Prop} (h0 : A.handled = none) (D : ZipApart z TI TO i1 i2 l1 l2) (he : IsEnum s.heap e z (k : Int) prev) (hz : ZSt s.heap z TI TO own f) (ho : OwnOk own)
    (hI : IsPair s.heap TI (.ref i1) (.ref i2)) (hO : IsPair s.heap TO c d) (t1 : s.heap.IsTupleIter i1 l1 k) (t2 : s.heap.IsTupleIter i2 l2 k)
    (r1 : s.heap.IsTuple l1 xs) (r2 : s.heap.IsTuple l2 ys) (ends : xs[k]? = none ∨ ys[k]? = none)
    (q : ∀ g : Heap, (∀ b o, b ≠ z → b ≠ TO → b ≠ i1 → b ≠ i2 → s.heap.get? b = some o → g.get? b = some o) → Q none { s with heap := g }) :
    wpAny (model P w) A (pyNext (.ref e)) Q E s := by
  have ty : s.TypeIs (.ref e) "enumerate" := ⟨_, he, rfl⟩
  unfold pyNext
  refine wpAny_bind (wpAny_attempt (wpAny_callSpecial?_slot (name := Str.ofString "__next__") ty F.slot_enumerate_next (wpAny_call_entry F.slot_enumerate_next ty F.entry_enumerate_next ?_ (F.args_enumerate_next_1 _))))
  show wpAny (model P w) A.in1 (field (.ref e) 2 >>= _) _ _ s
  refine wpAny_bind (wpAny_field he rfl (x := .ref z) rfl ?_)
  refine wpAny_bind (z_end (by simp [h0]) D hz ho hI hO t1 t2 r1 r2 ends fun g x keep ⟨oe, e1, e2⟩ => ?_)
  refine wpAny_bind (wpAny_isInstance (T := "StopIteration") (b := true) ⟨oe, e1, e2⟩ isSubtype_stop ?_)
  exact wpAny_pure (q g keep)
end
end Vf

namespace PySem
theorem meets_enumerate_zip (z TI TO : Addr) (f0 : Value) :
    Meets (Builtin.«enumerate.__new__» ⟨[.type "enumerate", .ref z], []⟩) (fun _ R s => IsZip s.heap z TI TO f0 ∧
      R (.ok (.ret (.ref s.heap.objs.size))) { s with heap := s.heap.push { data := .fields #[.none, .bool false, .ref z, rawInt 0, .none, .none], cls := .type "enumerate" } }) :=
  .of_wp fun prg w A R s h => by
    obtain ⟨hp, g, d, tk, os⟩ := s; obtain ⟨hz, h⟩ := h
    have hsub := sub_enumerate
    have zz : IsZip (Shared.heap ⟨hp, g, d, tk, os⟩) z TI TO f0 := hz
    have q1 : ∀ {A' : Around} {E : Value → Shared → Prop} {Q : Value → Shared → Prop}, Q (.ref z) ⟨hp, g, d, tk, os⟩ → wpAny (model prg w) A' (pyIter (.ref z)) Q E ⟨hp, g, d, tk, os⟩ := fun q => wpAny_pyIter_zip zz q
    wp_walk using q1
    refine wpAny_stack_any fun here => wpAny_pure ?_
    split
    · rename_i cls9 _ _ _ _ _
      cases (cls9 == Value.type "enumerate")
      · wp_walk using q1
        exact ⟨_, rfl, h⟩
      · wp_walk using q1
        exact ⟨_, rfl, h⟩
    · wp_walk using q1
      exact ⟨_, rfl, h⟩
theorem call_enumerate_zip {prg : Program} {w : World} {A : Around} {E : Value → Shared → Prop} {s : Shared} {z TI TO : Addr} {f0 : Value} {Q : Value → Shared → Prop} (hz : IsZip s.heap z TI TO f0)
    (h : ∀ g, IsEnum g s.heap.objs.size z 0 .none → (∀ b o, s.heap.get? b = some o → g.get? b = some o) → Q (.ref s.heap.objs.size) { s with heap := g }) :
    wpAny (model prg w) A (call (.type "enumerate") [.ref z]) Q E s := by
  refine callType_new F.called_enumerate (by decide) (F.typeCall_enumerate_1 _) (F.newCall_enumerate_1 _) (fun it => F.args_object_init_2 it _) F.entry_enumerate_new (meets_enumerate_zip z TI TO f0) ⟨hz, ?_⟩
  have qe : IsEnum (s.heap.push { data := .fields #[.none, .bool false, .ref z, rawInt 0, .none, .none], cls := .type "enumerate" }) s.heap.objs.size z 0 .none := Heap.get?_push_size _ rfl
  exact ⟨⟨_, qe, rfl⟩, h _ qe fun b o e => Heap.get?_push_of_some _ e⟩
end PySem
namespace Vf
open PySem L2 PySem.Spec PyProof.Rows He RZ
/-- enumerate(zip(s, t)), s and t tuples -/
def IteZ (K : PySem.W.Frag) (a b : Addr) : It :=
  ⟨fun i H => ∃ (xs ys : List V) (x y : V), SqT K H a xs ∧ SqT K H b ys ∧ xs[i]? = some x ∧ ys[i]? = some y,
   fun i H v H' => ∃ Pp T x y, v = .ref T ∧ H Pp = none ∧ upd H Pp (.tup [x, y]) T = none ∧ H' = upd (upd H Pp (.tup [x, y])) T (.tup [.int (i : Nat), .ref Pp]) ∧ (∀ xs, SqT K H a xs → xs[i]? = some x) ∧ ∀ ys, SqT K H b ys → ys[i]? = some y,
   fun i H => ∃ xs ys : List V, SqT K H a xs ∧ SqT K H b ys ∧ (xs.length ≤ i ∨ ys.length ≤ i)⟩
structure EzAt (a b e z TI TO i1 i2 : Addr) (i : Nat) (h : Heap) : Prop where
  e : ∃ prev, IsEnum h e z (i : Int) prev
  z : ∃ own f, ZSt h z TI TO own f ∧ OwnOk own
  p : IsPair h TI (.ref i1) (.ref i2)
  o : ∃ c d, IsPair h TO c d
  t1 : h.IsTupleIter i1 a i
  t2 : h.IsTupleIter i2 b i
theorem turn_enumZ {P : Program} {w : World} {K : PySem.W.Frag} {elts : List Expr} {kk : Nat} {tpos : Pos} {a b e z TI TO i1 i2 : Addr} (D : ZipApart z TI TO i1 i2 a b) (n1 : e ≠ z) (n2 : e ≠ TO) (n3 : e ≠ i1) (n4 : e ≠ i2) (n5 : e ≠ TI) :
    Turn P w K (.Tuple elts kk tpos) (IteZ K a b) [e, z, TI, TO, i1, i2] e (EzAt a b e z TI TO i1 i2) where
  mem := by simp
  obj := fun i h here c hc => by
    obtain ⟨⟨prev, he⟩, ⟨own, f, hz, _⟩, hp, ⟨c', d', ho⟩, ⟨o1, e1, _, d1⟩, ⟨o2, e2, _, d2⟩⟩ := here
    have e' : c = e ∨ c = z ∨ c = TI ∨ c = TO ∨ c = i1 ∨ c = i2 := by simpa using hc
    rcases e' with q | q | q | q | q | q
    · rw [q]; exact ⟨_, he, fun v q => nomatch q⟩
    · rw [q]; exact ⟨_, hz, fun v q => nomatch q⟩
    · rw [q]; exact ⟨_, hp, fun v q => nomatch q⟩
    · rw [q]; exact ⟨_, ho, fun v q => nomatch q⟩
    · rw [q]; exact ⟨o1, e1, fun v q => by rw [d1] at q; cases q⟩
    · rw [q]; exact ⟨o2, e2, fun v q => by rw [d2] at q; cases q⟩
  keep := fun i h h' here k => by
    obtain ⟨⟨prev, he⟩, ⟨own, f, hz, oo⟩, hp, ⟨c', d', ho⟩, h1, h2⟩ := here
    exact ⟨⟨prev, k e (by simp) _ he⟩, ⟨own, f, k z (by simp) _ hz, oo⟩, k TI (by simp) _ hp, ⟨c', d', k TO (by simp) _ ho⟩, h1.at fun o q => k i1 (by simp) o q, h2.at fun o q => k i2 (by simp) o q⟩
  item := by
    intro X hP hw hK wc i pins s σ H E I fp here got
    subst hP hw hK
    obtain ⟨⟨prev, he⟩, ⟨own, f, hz, oo⟩, hp, ⟨c', d', ho⟩, h1, h2⟩ := here
    obtain ⟨xs, ys, x, y, qx, qy, hx, hy⟩ := got
    obtain ⟨its, rv, p1, _⟩ := I.tuple qx
    obtain ⟨its2, rv2, p2, _⟩ := I.tuple qy
    obtain ⟨u, hu, ru⟩ := rv.get hx
    obtain ⟨u2, hu2, ru2⟩ := rv2.get hy
    have el : e < s.heap.objs.size := Heap.lt_size he
    have small : ∀ c ∈ [e, z, TI, TO, i1, i2], c < s.heap.objs.size := fun c hc => by
      have e' : c = e ∨ c = z ∨ c = TI ∨ c = TO ∨ c = i1 ∨ c = i2 := by simpa using hc
      rcases e' with q | q | q | q | q | q
      · rw [q]; exact el
      · rw [q]; exact Heap.lt_size hz
      · rw [q]; exact Heap.lt_size hp
      · rw [q]; exact Heap.lt_size ho
      · rw [q]; obtain ⟨_, e1, _⟩ := h1; exact Heap.lt_size e1
      · rw [q]; obtain ⟨_, e2, _⟩ := h2; exact Heap.lt_size e2
    refine ez_item D he hz oo n1 n2 n3 n4 n5 hp ho h1 h2 p1 p2 (x := u) (y := u2) (by simpa using hu) (by simpa using hu2) fun g g' tk own' f' c2 d2 v pn size keep up en z' oo' po a1 a2 ⟨tt, pT⟩ => ?_
    refine ⟨_, rfl, wpAny_letOwnedTupleGo_enum (s := { s with heap := g', toks := tk }) en fun g2 e2 only => ?_⟩
    have up2 : ∀ c o, c ≠ e → g'.get? c = some o → g2.get? c = some o := fun c o n h => (only.2 c n).trans h
    have I1 : Inv X pins σ (upd H s.heap.objs.size (.tup [x, y])) { s with heap := g, toks := s.toks } :=
      I.turnedNew (ch := [e, z, TI, TO, i1, i2]) (fun c o hb q => keep c o (fun q' => hb (by simp [q'])) (fun q' => hb (by simp [q'])) (fun q' => hb (by simp [q'])) (fun q' => hb (by simp [q'])) q) fp (Nat.le_refl _)
        ⟨by show 2 ≤ sizeLine; decide, [u, u2], .cons ru (.cons ru2 .nil), ⟨_, pn, rfl, _, rfl⟩⟩
    have fp1 : ∀ c ∈ [e, z, TI, TO, i1, i2], FpOk X pins (upd H s.heap.objs.size (.tup [x, y])) c := fun c hc => ⟨by rw [upd_ne (Nat.ne_of_lt (small c hc))]; exact (fp c hc).1, (fp c hc).2⟩
    have hT : upd H s.heap.objs.size (.tup [x, y]) (s.heap.objs.size + 1) = none := I1.hok.fresh (by show g.objs.size ≤ _; rw [size]; exact Nat.le_refl _)
    have pT2 : IsPair g2 (s.heap.objs.size + 1) (.int i tt) (.ref s.heap.objs.size) := up2 _ _ (Nat.ne_of_gt (Nat.lt_succ_of_lt el)) pT
    have I2 : Inv X pins σ (upd (upd H s.heap.objs.size (.tup [x, y])) (s.heap.objs.size + 1) (.tup [.int (i : Nat), .ref s.heap.objs.size])) { s with heap := g2, toks := tk } :=
      I1.turnedNew (t' := tk) (ch := [e]) (fun c o hb q => up2 c o (fun q' => hb (by simp [q'])) (up c o (fun q' => hb (by simp [q'])) q)) (fun c hc => fp1 c (by rw [List.mem_singleton.mp hc]; simp)) (by show g.objs.size ≤ _; rw [size]; exact Nat.le_refl _)
        ⟨by show 2 ≤ sizeLine; decide, [.int i tt, .ref s.heap.objs.size], .cons ⟨_, rfl⟩ (.cons rfl .nil), ⟨_, pT2, rfl, _, rfl⟩⟩
    refine ⟨.ref (s.heap.objs.size + 1), _, I2, rfl, ⟨s.heap.objs.size, _, x, y, rfl, I.hok.fresh (Nat.le_refl _), hT, rfl, fun l hl => by rw [I.tuple_inj hl qx]; exact hx, fun l hl => by rw [I.tuple_inj hl qy]; exact hy⟩, ⟨⟨v, ?_⟩, ⟨own', f', up2 _ _ (Ne.symm n1) z', oo'⟩, up2 _ _ (Ne.symm n5) (up _ _ (Ne.symm n5) (keep _ _ D.TIz D.TITO D.TIi1 D.TIi2 hp)), ⟨c2, d2, up2 _ _ (Ne.symm n2) po⟩, a1.at fun o q => up2 _ o (Ne.symm n3) q, a2.at fun o q => up2 _ o (Ne.symm n4) q⟩, fun c hc => ?_⟩
    · have up1 : ((i + 1 : Nat) : Int) = (i : Int) + 1 := by omega
      rw [up1]; exact e2
    · have lt := small c hc
      rw [upd_ne (Nat.ne_of_lt (Nat.lt_succ_of_lt lt)), upd_ne (Nat.ne_of_lt lt)]
      exact (fp c hc).1
  done := by
    intro X hP hw hK wc i pins s σ H E I fp here got
    subst hP hw hK
    obtain ⟨⟨prev, he⟩, ⟨own, f, hz, oo⟩, hp, ⟨c', d', ho⟩, h1, h2⟩ := here
    obtain ⟨xs, ys, qx, qy, ends⟩ := got
    obtain ⟨its, rv, p1, _⟩ := I.tuple qx
    obtain ⟨its2, rv2, p2, _⟩ := I.tuple qy
    have l1 := rv.length
    have l2 := rv2.length
    have en : its.toArray[i]? = none ∨ its2.toArray[i]? = none := by
      rcases ends with q | q
      · exact .inl (by simp; omega)
      · exact .inr (by simp; omega)
    exact ez_end (I.ok.hd wc) D he hz oo hp ho h1 h2 p1 p2 en fun g keep => ⟨rfl, I.turnedL (t' := s.toks) (ch := [e, z, TI, TO, i1, i2]) (fun c o hb q =>
      keep c o (fun q' => hb (by simp [q'])) (fun q' => hb (by simp [q'])) (fun q' => hb (by simp [q'])) (fun q' => hb (by simp [q'])) q) fp⟩
  self := fun A i s Q E here h => let ⟨_, he⟩ := here.e; wpAny_pyIter_enum he h
def iEnumZ (K : PySem.W.Frag) (ta : TA) : TI := fun σ H R => ta σ H fun vs H1 => ∃ a b xs ys, vs = [.ref a, .ref b] ∧ SqT K H1 a xs ∧ SqT K H1 b ys ∧ R (IteZ K a b) H1
theorem pi_enumZ {X : Cx} {e e2 : Expr} {ta : TA} {p p2 pos pos2 tpos : Pos} {elts : List Expr} {kk : Nat} (g1 : Gl X "enumerate") (m1 : X.mg "enumerate" = none) (g2 : Gl X "zip") (m2 : X.mg "zip" = none) (ha : PA X [e, e2] ta)
    (hs : starEach [e, e2] X.env = (false, eval e X.env) :: starEach [e2] X.env := by rfl) (hpl : (backTo pos2 (starEach [e2] X.env)).any (·.1) = false := by rfl)
    (hs1 : starEach [Expr.Call (.Name "zip" p2) [e, e2] [] pos2] X.env = [(false, eval (.Call (.Name "zip" p2) [e, e2] [] pos2) X.env)] := by rfl) :
    PI X (.Tuple elts kk tpos) (.Call (.Name "enumerate" p) [.Call (.Name "zip" p2) [e, e2] [] pos2] [] pos) (iEnumZ X.K ta) := by
  refine ⟨fun pins s σ H R I h => ?_⟩
  refine Call_ (ld_blt I g1 m1 boot_enumerate (PyProof.Rows.callWith_type1 ?_ hs1 rfl))
  rw [hs1]
  show wpAny _ _ (spliced [(false, eval (.Call (.Name "zip" p2) [e, e2] [] pos2) X.env)]) _ _ s
  refine Calls.spliced_cons ?_
  refine Call_ (ld_blt I g2 m2 PyProof.Rows.boot_zip (PyProof.Rows.callWith_type1 (thn (ha.run pos2 pins s σ H _ I h) fun us s1 ⟨vs, H1, I1, r1, q1⟩ => ?_) hs hpl))
  obtain ⟨a, b, xs, ys, ex, qx, qy, q⟩ := q1
  subst ex
  cases r1 with
  | cons r rr =>
    cases rr with
    | cons r' rr =>
      cases rr
      cases r
      cases r'
      obtain ⟨its, rv, p1, _⟩ := I1.tuple qx
      obtain ⟨its2, rv2, p2', _⟩ := I1.tuple qy
      obtain ⟨o1, ho1, _⟩ := id p1
      obtain ⟨o2, ho2, _⟩ := id p2'
      refine call_zipT (show s1.heap.IsTuple a its.toArray from p1) (show s1.heap.IsTuple b its2.toArray from p2') fun g hz hTI hTO t1 t2 hsz hk => ?_
      refine Calls.spliced_nil ?_
      refine call_enumerate_zip (s := { s1 with heap := g }) hz fun g2 he hk2 => wpAny_pyIter_enum he ?_
      have I2 : Inv X pins σ H1 { s1 with heap := g2 } := I1.kept (t' := s1.toks) fun c o q => hk2 c o (hk c o q)
      have above : ∀ c, s1.heap.objs.size ≤ c → FpOk X pins H1 c := fun c hle => I1.fpOk hle (I1.hok.fresh hle)
      dsimp only at he hk2
      rw [hsz] at he ⊢
      refine ⟨s1.heap.objs.size + 5, [s1.heap.objs.size + 5, s1.heap.objs.size + 4, s1.heap.objs.size + 2, s1.heap.objs.size + 3, s1.heap.objs.size, s1.heap.objs.size + 1], _, _, H1, rfl, I2,
        turn_enumZ (PySem.W.ktu_apart s1.heap.objs.size a b (Heap.lt_size ho1) (Heap.lt_size ho2)) (by intro z; exact absurd (Nat.add_left_cancel z) (by decide)) (by intro z; exact absurd (Nat.add_left_cancel z) (by decide)) (Nat.ne_of_gt (Nat.lt_add_of_pos_right (by decide))) (by intro z; exact absurd (Nat.add_left_cancel z) (by decide)) (by intro z; exact absurd (Nat.add_left_cancel z) (by decide)),
        ⟨⟨.none, he⟩, ⟨.none, false, hk2 _ _ hz, .inl rfl⟩, hk2 _ _ hTI, ⟨_, _, hk2 _ _ hTO⟩, t1.at fun o q => hk2 _ o q, t2.at fun o q => hk2 _ o q⟩, fun c hc => ?_, q⟩
      have e' : c = s1.heap.objs.size + 5 ∨ c = s1.heap.objs.size + 4 ∨ c = s1.heap.objs.size + 2 ∨ c = s1.heap.objs.size + 3 ∨ c = s1.heap.objs.size ∨ c = s1.heap.objs.size + 1 := by simpa using hc
      rcases e' with z | z | z | z | z | z <;> rw [z] <;> exact above _ (by first | exact Nat.le_add_right _ _ | exact Nat.le_refl _)
/-- the turns of such a loop -/
theorem for_enumZ {K : PySem.W.Frag} {a b : Addr} {xs ys : List V} {g : TG} {tb : TS} {D : Ends} {σ : L2.St} {H : Hp} (hl : xs.length = ys.length) (Pv : Nat → L2.St → Hp → Prop) (h0 : Pv 0 σ H) (hq : ∀ i σ H, Pv i σ H → SqT K H a xs ∧ SqT K H b ys)
    (hs : ∀ (i : Nat) (x y : V) (Pp T : Addr) (σ : L2.St) (H : Hp), xs[i]? = some x → ys[i]? = some y → Pv i σ H → H Pp = none → upd H Pp (.tup [x, y]) T = none →
      g (.ref T) σ (upd (upd H Pp (.tup [x, y])) T (.tup [.int (i : Nat), .ref Pp])) fun σ2 H2 => tb { D with nx := Pv (i + 1), ct := Pv (i + 1), bk := D.nx } σ2 H2)
    (hd : ∀ σ H, Pv xs.length σ H → D.nx σ H) : ForB (IteZ K a b) g tb D σ H := by
  refine ⟨fun i m σ H => m = xs.length - i ∧ i ≤ xs.length ∧ Pv i σ H, ⟨xs.length, rfl, Nat.zero_le _, h0⟩, ?_⟩
  rintro i m σ H ⟨rfl, hi, p⟩
  obtain ⟨qx, qy⟩ := hq i σ H p
  by_cases lt : i < xs.length
  · have hx : xs[i]? = some xs[i] := List.getElem?_eq_getElem lt
    have hy : ys[i]? = some (ys[i]'(by omega)) := List.getElem?_eq_getElem (by omega)
    refine .inr ⟨⟨xs, ys, _, _, qx, qy, hx, hy⟩, Pv (i + 1), fun σ' H' p' => ⟨xs.length - (i + 1), by omega, rfl, lt, p'⟩, fun v H' y => ?_⟩
    obtain ⟨Pp, T, x', y', rfl, hP, hT, rfl, f1, f2⟩ := y
    exact hs i x' y' Pp T σ H (f1 xs qx) (f2 ys qy) p hP hT
  · have e : i = xs.length := by omega
    subst e
    exact .inl ⟨⟨xs, ys, qx, qy, .inl (Nat.le_refl _)⟩, hd σ H p⟩
end Vf

namespace Vf
open PySem L2 PySem.Spec PyProof.Rows He RZ
/-! max(xs): xs a list of references to data of one form -/
structure MdK (K : PySem.W.Frag) (H : Hp) (a : Addr) (ps : List Addr) (kd : Nat → PyData) : Prop where
  lst : SqL K H a (ps.map V.ref)
  dp : ∀ i p, ps[i]? = some p → Dp K H (.ref p) (kd i)
  alk : ∀ i j, i < ps.length → j < ps.length → PySem.W.alike (kd i) (kd j) = true
  nn : ∀ i, i < ps.length → kd i ≠ .none
  dep : ∀ i, i < ps.length → (kd i).depth ≤ 60
section
variable {X : Cx} {a : Addr} {pins : List (Addr × Obj)} {σ : L2.St} {ps : List Addr} {kd : Nat → PyData} {H : Hp} {S it : Addr} {R : Result → Shared → Prop}
theorem md_loop (hc : X.calm = true) (hu : X.A.units + 64 < cLine) (M : MdK X.K H a ps kd) (fS : FpOk X pins H S) (fI : FpOk X pins H it) (ne : S ≠ it) :
    ∀ (m j : Nat) (s : Shared) (p : Addr) (c : Nat), ps.length - (j + 1) = m → j + 1 ≤ ps.length → Inv X pins σ H s → ps[argBest (mxB kd) j]? = some p → s.heap.get? S = some (mxS (.ref p) (.ref p) c) → s.heap.IsListIter it a (j + 1) →
    (∀ (s' : Shared) (p : Addr), Inv X pins σ H s' → ps[argBest (mxB kd) (ps.length - 1)]? = some p → R (.ok (.ret (.ref p))) s') → codeAny (model X.prog X.w) X.A (.builtin "max.loop" ⟨[.ref it, .none, .ref S], []⟩) R s := by
  have hname : (toString "max" ++ toString ".loop" : String) = "max.loop" := by decide
  intro m
  induction m with
  | zero =>
    intro j s p c hm hj I hp hS st hR
    obtain ⟨its, rv, pl, hz⟩ := I.list M.lst
    have hl := rv.length
    rw [List.length_map] at hl
    refine codeAny_builtin PySem.F.entry_max_loop ?_
    rw [Around.under_plainId PySem.F.plain_max_loop _]
    show wpAny _ X.A.in1 (seqItems? (.ref S) >>= _) _ _ s
    refine wpAny_bind (wpAny_seqItems hS rfl ?_)
    refine wpAny_bind (wpAny_tryCatch ?_)
    refine wpAny_pyNext_list_end (I.ok.hd hc) st pl.isList (by simp; omega) fun h' eb => ?_
    have I1 : Inv X pins σ H { s with heap := h' } := I.turned (t' := s.toks) (fun b o hb e => eb b o hb e) fI.1 fI.2.1 fI.2.2.2.1 fI.2.2.2.2.1 fI.2.2.2.2.2
    have hS' : ({ s with heap := h' } : Shared).heap.get? S = some (mxS (.ref p) (.ref p) c) := eb S _ ne hS
    show wpAny _ X.A.in1 (updateSeq S (fun _ => #[]) >>= _) _ _ _
    refine wpAny_bind (wpAny_updateSeq hS' rfl (wpAny_bind (wpAny_letGo (wpAny_pure ?_))))
    have I2 := I1.turned (it := S) (t' := s.toks) (h' := h'.update S (Obj.mapSeq fun _ => #[])) (fun b o hb e => (Heap.get?_update_other _ _ (Ne.symm hb)).trans e) fS.1 fS.2.1 fS.2.2.2.1 fS.2.2.2.2.1 fS.2.2.2.2.2
    refine hR _ p I2 ?_
    rw [show ps.length - 1 = j from by omega]
    exact hp
  | succ m ih =>
    intro j s p c hm hj I hp hS st hR
    obtain ⟨its, rv, pl, hz⟩ := I.list M.lst
    have hlt : j + 1 < ps.length := by omega
    have hx : ps[j + 1]? = some ps[j + 1] := List.getElem?_eq_getElem hlt
    obtain ⟨u, hu1, ru⟩ := rv.get (i := j + 1) (x := .ref ps[j + 1]) (by rw [List.getElem?_map, hx]; rfl)
    cases ru
    generalize ps[j + 1] = q at hx hu1
    refine codeAny_builtin PySem.F.entry_max_loop ?_
    rw [Around.under_plainId PySem.F.plain_max_loop _]
    show wpAny _ X.A.in1 (seqItems? (.ref S) >>= _) _ _ s
    refine wpAny_bind (wpAny_seqItems hS rfl ?_)
    refine wpAny_bind (wpAny_tryCatch ?_)
    refine wpAny_pyNext_list_item st pl.isList (x := .ref q) (by simpa using hu1) fun h' st' sb => ?_
    have I1 : Inv X pins σ H { s with heap := h' } := I.turned (t' := s.toks) (fun b o hb e => (sb.2 b hb).trans e) fI.1 fI.2.1 fI.2.2.2.1 fI.2.2.2.2.1 fI.2.2.2.2.2
    have hS' : ({ s with heap := h' } : Shared).heap.get? S = some (mxS (.ref p) (.ref p) c) := (sb.2 S ne).trans hS
    have hbl := argBest_lt (mxB kd) j
    obtain ⟨as1, r1⟩ := Dp.reads I1 _ _ _ (M.dp _ _ hx) rfl
    obtain ⟨as2, r2⟩ := Dp.reads I1 _ _ _ (M.dp _ _ hp) rfl
    refine wpAny_bind (wpAny_pure ?_)
    refine wpAny_bind (wpAny_tryCatch (wpAny_holding (wpAny_bind (PySem.W.gt_data r1 r2 (M.alk _ _ hlt (by omega)) (M.nn _ hlt) (by
      have h1 := Nat.min_le_left (kd (j + 1)).depth (kd (argBest (mxB kd) j)).depth
      have h2 := M.dep _ hlt
      show X.A.units + 1 + _ < _
      omega) ?_))))
    refine wpAny_bind (wpAny_holding (wpAny_truthy_bool ?_))
    refine wpAny_bind (wpAny_letGo (wpAny_pure ?_))
    have eB : argBest (mxB kd) (j + 1) = if PySem.W.dataLt (kd (argBest (mxB kd) j)) (kd (j + 1)) = true then j + 1 else argBest (mxB kd) j := rfl
    cases hcmp : PySem.W.dataLt (kd (argBest (mxB kd) j)) (kd (j + 1)) with
    | true =>
      rw [hcmp, if_pos rfl] at eB
      simp only [if_true]
      refine wpAny_bind (wpAny_updateSeq hS' rfl (wpAny_bind (wpAny_letGo ?_)))
      rw [hname]
      refine wpAny_pure ⟨plainId_quiet PySem.F.plain_max_loop _, ih (j + 1) _ q c (by omega) hlt ?_ (by rw [eB]; exact hx) ?_ (st'.at fun o e => ?_) hR⟩
      · exact I1.turned (it := S) (t' := s.toks) (fun b o hb e => (Heap.get?_update_other _ _ (Ne.symm hb)).trans e) fS.1 fS.2.1 fS.2.2.2.1 fS.2.2.2.2.1 fS.2.2.2.2.2
      · exact Heap.get?_update_self _ hS' rfl
      · exact (Heap.get?_update_other _ _ ne).trans e
    | false =>
      rw [hcmp, if_neg Bool.false_ne_true] at eB
      simp only [Bool.false_eq_true, if_false]
      refine wpAny_bind (wpAny_letGo ?_)
      rw [hname]
      exact wpAny_pure ⟨plainId_quiet PySem.F.plain_max_loop _, ih (j + 1) _ p c (by omega) hlt I1 (by rw [eB]; exact hp) hS' st' hR⟩
/-- the first of the best -/
def rMaxD (K : PySem.W.Frag) : List V → Hp → VK → Prop := fun vs H Q => ∃ (a : Addr) (ps : List Addr) (kd : Nat → PyData), vs = [.ref a] ∧ 0 < ps.length ∧ MdK K H a ps kd ∧ ∀ p, ps[mxI kd ps.length]? = some p → Q (.ref p) H
theorem cr_maxD (hc : X.calm = true) (hu : X.A.units + 64 < cLine) : CallR X (.builtin "max") (rMaxD X.K) := by
  intro pins s σ H vs us Q I r hq
  obtain ⟨a, ps, kd, rfl, hn, M, q⟩ := hq
  obtain rfl := Vals.ref1 r
  have hname : (toString "max" ++ toString ".loop" : String) = "max.loop" := by decide
  refine PyProof.Rows.kmk_tree PySem.F.kind_max PySem.F.plain_max PySem.F.entry_max (by unfold argsOk; kernel_rfl) ?_
  refine wpAny_bind (wpAny_of_eq (a := [none, none]) (by rfl) ?_)
  refine wpAny_bind (wpAny_pure ?_)
  obtain ⟨its, rv, pl, hz⟩ := I.list M.lst
  refine wpAny_bind (wpAny_pyIter_list pl.isList ?_)
  have I1 : Inv X pins σ H { s with heap := s.heap.push { cls := .type "list_iterator", data := .fields #[.ref a, .int 0 0] } } := I.kept (t' := s.toks) fun b o e => Heap.get?_push_of_some _ e
  have fI : FpOk X pins H s.heap.objs.size := I.fpOk (Nat.le_refl _) (I.hok.fresh (Nat.le_refl _))
  have st0 : ({ s with heap := s.heap.push { cls := .type "list_iterator", data := .fields #[.ref a, .int 0 0] } } : Shared).heap.IsListIter s.heap.objs.size a 0 := ⟨_, Heap.get?_push_size _ rfl, rfl, rfl⟩
  generalize hs1 : ({ s with heap := s.heap.push { cls := .type "list_iterator", data := .fields #[.ref a, .int 0 0] } } : Shared) = s1 at I1 st0 ⊢
  have sz1 : s1.heap.objs.size = s.heap.objs.size + 1 := by rw [← hs1]; exact size_push' ..
  have fS : FpOk X pins H s1.heap.objs.size := I1.fpOk (Nat.le_refl _) (I1.hok.fresh (Nat.le_refl _))
  refine wpAny_bind (wpAny_newObj_type ?_)
  rw [hname]
  have I2 : Inv X pins σ H { s1 with heap := s1.heap.push { cls := .type "list", data := .seq #[] 0 } } := I1.kept (t' := s1.toks) fun b o e => Heap.get?_push_of_some _ e
  have hS : (s1.heap.push { cls := .type "list", data := .seq #[] 0 }).get? s1.heap.objs.size = some { cls := .type "list", data := .seq #[] 0 } := Heap.get?_push_size _ rfl
  have st1 := st0.at (h' := s1.heap.push { cls := .type "list", data := .seq #[] 0 }) fun o e => Heap.get?_push_of_some _ e
  have ne : s1.heap.objs.size ≠ s.heap.objs.size := fun z => by rw [sz1] at z; exact absurd z (Nat.succ_ne_self _)
  refine wpAny_pure ⟨plainId_quiet PySem.F.plain_max_loop _, ?_⟩
  generalize hs2 : ({ s1 with heap := s1.heap.push { cls := .type "list", data := .seq #[] 0 } } : Shared) = s2 at I2
  have hS2 : s2.heap.get? s1.heap.objs.size = some { cls := .type "list", data := .seq #[] 0 } := by rw [← hs2]; exact hS
  have st2 : s2.heap.IsListIter s.heap.objs.size a 0 := by rw [← hs2]; exact st1
  obtain ⟨its2, rv2, pl2, hz2⟩ := I2.list M.lst
  have hx : ps[0]? = some ps[0] := List.getElem?_eq_getElem hn
  obtain ⟨u, hu1, ru⟩ := rv2.get (i := 0) (x := .ref ps[0]) (by rw [List.getElem?_map, hx]; rfl)
  cases ru
  generalize ps[0] = b0 at hx hu1
  refine codeAny_builtin PySem.F.entry_max_loop ?_
  rw [Around.under_plainId PySem.F.plain_max_loop _]
  show wpAny _ X.A.in1 (seqItems? (.ref s1.heap.objs.size) >>= _) _ _ s2
  refine wpAny_bind (wpAny_seqItems hS2 rfl ?_)
  refine wpAny_bind (wpAny_tryCatch ?_)
  refine wpAny_pyNext_list_item st2 pl2.isList (x := .ref b0) (by simpa using hu1) fun h' st' sb => ?_
  have I3 : Inv X pins σ H { s2 with heap := h' } := I2.turned (t' := s2.toks) (fun b o hb e => (sb.2 b hb).trans e) fI.1 fI.2.1 fI.2.2.2.1 fI.2.2.2.2.1 fI.2.2.2.2.2
  have hS3 : ({ s2 with heap := h' } : Shared).heap.get? s1.heap.objs.size = some { cls := .type "list", data := .seq #[] 0 } := (sb.2 _ ne).trans hS2
  refine wpAny_bind (wpAny_pure ?_)
  refine wpAny_bind (wpAny_updateSeq hS3 rfl ?_)
  rw [hname]
  refine wpAny_pure ⟨plainId_quiet PySem.F.plain_max_loop _, md_loop hc hu M fS fI ne _ 0 _ b0 1 rfl hn ?_ hx ?_ (st'.at fun o e => ?_) fun s' p I' hp' => ⟨.ref p, H, I', rfl, q p hp'⟩⟩
  · exact I3.turned (it := s1.heap.objs.size) (t' := s2.toks) (fun b o hb e => (Heap.get?_update_other _ _ (Ne.symm hb)).trans e) fS.1 fS.2.1 fS.2.2.2.1 fS.2.2.2.2.1 fS.2.2.2.2.2
  · exact Heap.get?_update_self _ hS3 rfl
  · exact (Heap.get?_update_other _ _ ne).trans e
end
end Vf

namespace Vf
open PySem L2 PySem.Spec PyProof.Rows He RZ
/-! zip(xs, t), a list and a tuple -/
def ItzLT (K : PySem.W.Frag) (a b : Addr) : It :=
  ⟨fun i H => ∃ (xs ys : List V) (x y : V), SqL K H a xs ∧ SqT K H b ys ∧ xs[i]? = some x ∧ ys[i]? = some y,
   fun i H v H' => ∃ T x y, v = .ref T ∧ H T = none ∧ H' = upd H T (.tup [x, y]) ∧ (∀ xs, SqL K H a xs → xs[i]? = some x) ∧ ∀ ys, SqT K H b ys → ys[i]? = some y,
   fun i H => ∃ xs ys : List V, SqL K H a xs ∧ SqT K H b ys ∧ (xs.length = i ∨ ys.length = i) ∧ i ≤ xs.length ∧ i ≤ ys.length⟩
structure ZlAt (a b z TI TO i1 i2 : Addr) (i : Nat) (h : Heap) : Prop where
  z : IsZip h z TI TO .none
  p : IsTupOf2 h TI (.ref i1) (.ref i2)
  o : ∃ c d, IsTupOf2 h TO c d
  t1 : h.IsListIter i1 a i
  t2 : h.IsTupleIter i2 b i
theorem turn_zipLT {P : Program} {w : World} {K : PySem.W.Frag} {elts : List Expr} {kk : Nat} {tpos : Pos} {a b z TI TO i1 i2 : Addr} (D : ZipSep2 z TI TO i1 i2 [i1, a] [i2, b]) (na : a ≠ i1) (nb : b ≠ i2) :
    Turn P w K (.Tuple elts kk tpos) (ItzLT K a b) [z, TI, TO, i1, i2] z (ZlAt a b z TI TO i1 i2) where
  mem := by simp
  obj := fun i h here c hc => by
    obtain ⟨hz, hp, ⟨c', d', ho⟩, ⟨o1, e1, _, d1⟩, ⟨o2, e2, _, d2⟩⟩ := here
    have e' : c = z ∨ c = TI ∨ c = TO ∨ c = i1 ∨ c = i2 := by simpa using hc
    rcases e' with q | q | q | q | q
    · rw [q]; exact ⟨_, hz, fun v q => nomatch q⟩
    · rw [q]; exact ⟨_, hp, fun v q => nomatch q⟩
    · rw [q]; exact ⟨_, ho, fun v q => nomatch q⟩
    · rw [q]; exact ⟨o1, e1, fun v q => by rw [d1] at q; cases q⟩
    · rw [q]; exact ⟨o2, e2, fun v q => by rw [d2] at q; cases q⟩
  keep := fun i h h' here k => by
    obtain ⟨hz, hp, ⟨c', d', ho⟩, h1, h2⟩ := here
    exact ⟨k z (by simp) _ hz, k TI (by simp) _ hp, ⟨c', d', k TO (by simp) _ ho⟩, h1.at fun o q => k i1 (by simp) o q, h2.at fun o q => k i2 (by simp) o q⟩
  item := by
    intro X hP hw hK wc i pins s σ H E I fp here got
    subst hP hw hK
    obtain ⟨hz, hp, ⟨c', d', ho⟩, h1, h2⟩ := here
    obtain ⟨xs, ys, x, y, qx, qy, hx, hy⟩ := got
    obtain ⟨its, rv, p1, _⟩ := I.list qx
    obtain ⟨its2, rv2, p2, _⟩ := I.tuple qy
    obtain ⟨u, hu, ru⟩ := rv.get hx
    obtain ⟨u2, hu2, ru2⟩ := rv2.get hy
    have h0 : X.A.in1.handled = none := I.ok.hd wc
    have zl : z < s.heap.objs.size := Heap.lt_size hz
    have lt1 : i < its.toArray.size := by have := (List.getElem?_eq_some_iff.mp hu).1; simpa using this
    have lt2 : i < its2.toArray.size := by have := (List.getElem?_eq_some_iff.mp hu2).1; simpa using this
    refine wpAny_pyNext_zipD2_item D (Draws.list (A := X.A.in1) h0 i1 a na its.toArray) (Draws.tuple (A := X.A.in1) h0 i2 b nb its2.toArray) hz hp ho ⟨h1, p1.isList⟩ ⟨h2, p2⟩ lt1 lt2 fun x1 x2 g tk y1 y2 z' o' s1 s2 pT size keep => ?_
    have e1 : x1 = u := by
      have q1 : its[i]? = some x1 := by simpa using y1
      exact Option.some.inj (q1.symm.trans hu)
    have e2 : x2 = u2 := by
      have q1 : its2[i]? = some x2 := by simpa using y2
      exact Option.some.inj (q1.symm.trans hu2)
    subst e1 e2
    refine ⟨_, rfl, wpAny_letOwnedTupleGo_zip (s := { s with heap := g, toks := tk }) z' fun g2 z2 only => ?_⟩
    have up : ∀ c o, c ≠ z → g.get? c = some o → g2.get? c = some o := fun c o n h => (only.2 c n).trans h
    have pT2 : IsTupOf2 g2 s.heap.objs.size x1 x2 := up _ _ (Nat.ne_of_gt zl) pT
    have I1 : Inv X pins σ (upd H s.heap.objs.size (.tup [x, y])) { s with heap := g2, toks := tk } :=
      I.turnedNew (ch := [z, TI, TO, i1, i2]) (fun c o hb q => up c o (fun q' => hb (by simp [q'])) (keep c o (fun q' => hb (by simp [q'])) (fun q' => hb (by simp [q'])) (fun q' => hb (by simp [q'])) (fun q' => hb (by simp [q'])) q)) fp (Nat.le_refl _)
        ⟨by show 2 ≤ sizeLine; decide, [x1, x2], .cons ru (.cons ru2 .nil), ⟨_, pT2, rfl, _, rfl⟩⟩
    refine ⟨.ref s.heap.objs.size, _, I1, rfl, ⟨_, x, y, rfl, I.hok.fresh (Nat.le_refl _), rfl, fun l hl => by rw [I.list_inj hl qx]; exact hx, fun l hl => by rw [I.tuple_inj hl qy]; exact hy⟩, ⟨z2, up _ _ D.TIz (keep _ _ D.TIz D.TITO D.TIi1 D.TIi2 hp), ⟨x1, x2, up _ _ D.TOz o'⟩, s1.1.at fun o q => up _ o D.zi1.symm q, s2.1.at fun o q => up _ o D.zi2.symm q⟩, fun c hcm => ?_⟩
    have lt : c < s.heap.objs.size := by
      have e' : c = z ∨ c = TI ∨ c = TO ∨ c = i1 ∨ c = i2 := by simpa using hcm
      rcases e' with q | q | q | q | q
      · rw [q]; exact zl
      · rw [q]; exact Heap.lt_size hp
      · rw [q]; exact Heap.lt_size ho
      · rw [q]; obtain ⟨_, e1, _⟩ := h1; exact Heap.lt_size e1
      · rw [q]; obtain ⟨_, e2, _⟩ := h2; exact Heap.lt_size e2
    rw [upd_ne (Nat.ne_of_lt lt)]
    exact (fp c hcm).1
  done := by
    intro X hP hw hK wc i pins s σ H E I fp here got
    subst hP hw hK
    obtain ⟨hz, hp, ⟨c', d', ho⟩, h1, h2⟩ := here
    obtain ⟨xs, ys, qx, qy, en, le1, le2⟩ := got
    obtain ⟨its, rv, p1, _⟩ := I.list qx
    obtain ⟨its2, rv2, p2, _⟩ := I.tuple qy
    have l1 := rv.length
    have l2 := rv2.length
    have h0 : X.A.in1.handled = none := I.ok.hd wc
    refine wpAny_pyNext_zipD2_end D (Draws.list (A := X.A.in1) h0 i1 a na its.toArray) (Draws.tuple (A := X.A.in1) h0 i2 b nb its2.toArray) hz hp ho ⟨h1, p1.isList⟩ ⟨h2, p2⟩ (by simp; omega) (by simp; omega) (by simp; omega) fun g tk keep => ⟨rfl, ?_⟩
    exact I.turnedL (t' := tk) (ch := [z, TI, TO, i1, i2]) (fun c o hb q => keep c o (fun q' => hb (by simp [q'])) (fun q' => hb (by simp [q'])) (fun q' => hb (by simp [q'])) (fun q' => hb (by simp [q'])) q) fp
  self := fun A i s Q E here h => wpAny_pyIter_zip here.z h
def iZipLT (K : PySem.W.Frag) (ta : TA) : TI := fun σ H R => ta σ H fun vs H1 => ∃ a b xs ys, vs = [.ref a, .ref b] ∧ SqL K H1 a xs ∧ SqT K H1 b ys ∧ R (ItzLT K a b) H1
theorem pi_zipLT {X : Cx} {e e2 : Expr} {ta : TA} {p pos tpos : Pos} {elts : List Expr} {kk : Nat} (hg : Gl X "zip") (hm : X.mg "zip" = none) (ha : PA X [e, e2] ta)
    (hs : starEach [e, e2] X.env = (false, eval e X.env) :: starEach [e2] X.env := by rfl) (hpl : (backTo pos (starEach [e2] X.env)).any (·.1) = false := by rfl) :
    PI X (.Tuple elts kk tpos) (.Call (.Name "zip" p) [e, e2] [] pos) (iZipLT X.K ta) := by
  refine ⟨fun pins s σ H R I h => ?_⟩
  refine Call_ (ld_blt I hg hm PyProof.Rows.boot_zip (PyProof.Rows.callWith_type1 (thn (ha.run pos pins s σ H _ I h) fun us s1 ⟨vs, H1, I1, r1, q1⟩ => ?_) hs hpl))
  obtain ⟨a, b, xs, ys, ex, qx, qy, q⟩ := q1
  subst ex
  cases r1 with
  | cons r rr =>
    cases rr with
    | cons r' rr =>
      cases rr
      cases r
      cases r'
      obtain ⟨its, rv, p1, _⟩ := I1.list qx
      obtain ⟨its2, rv2, p2, _⟩ := I1.tuple qy
      have la : a < s1.heap.objs.size := p1.lt
      obtain ⟨o2, ho2, _⟩ := id p2
      have lb : b < s1.heap.objs.size := Heap.lt_size ho2
      refine zip_begins2 (begins_list a its.toArray) (begins_tuple b its2.toArray) p1.isList p2 fun g hz hTI hTO g1 g2 size hk => wpAny_pyIter_zip hz ?_
      have I2 : Inv X pins σ H1 { s1 with heap := g } := I1.kept (t' := s1.toks) hk
      refine ⟨s1.heap.objs.size + 4, [s1.heap.objs.size + 4, s1.heap.objs.size + 2, s1.heap.objs.size + 3, s1.heap.objs.size, s1.heap.objs.size + 1], _, _, H1, rfl, I2,
        turn_zipLT (a := a) (b := b) (zip_sep2 (fp1 := [a]) (fp2 := [b]) (fun c hc => by rw [List.mem_singleton.mp hc]; exact la) (fun c hc => by rw [List.mem_singleton.mp hc]; exact lb)) (Nat.ne_of_lt la) (Nat.ne_of_lt (Nat.lt_succ_of_lt lb)),
        ⟨hz, hTI, ⟨_, _, hTO⟩, ⟨_, g1, rfl, rfl⟩, ⟨_, g2, rfl, rfl⟩⟩, fun c hc => ?_, q⟩
      have e' : c = s1.heap.objs.size + 4 ∨ c = s1.heap.objs.size + 2 ∨ c = s1.heap.objs.size + 3 ∨ c = s1.heap.objs.size ∨ c = s1.heap.objs.size + 1 := by simpa using hc
      have above : s1.heap.objs.size ≤ c := by rcases e' with z | z | z | z | z <;> rw [z] <;> first | exact Nat.le_add_right _ _ | exact Nat.le_refl _
      exact I1.fpOk above (I1.hok.fresh above)
theorem walk_zipLT {K : PySem.W.Frag} {a b : Addr} {xs ys : List V} (hl : xs.length = ys.length) : Walk (ItzLT K a b) xs.length (fun H => SqL K H a xs ∧ SqT K H b ys) (YPair (fun i => xs[i]?) (fun i => ys[i]?)) := by
  refine ⟨fun i H hi q => ⟨xs, ys, xs[i], ys[i]'(by omega), q.1, q.2, List.getElem?_eq_getElem hi, List.getElem?_eq_getElem (by omega)⟩, fun H q => ⟨xs, ys, q.1, q.2, .inl rfl, Nat.le_refl _, by omega⟩, fun i H v H' hi q y => ?_⟩
  obtain ⟨T, x, y, g1, g2, g3, g4, g5⟩ := y
  exact ⟨T, x, y, g1, g2, g3, g4 xs q.1, g5 ys q.2⟩
end Vf

namespace Vf
open PySem L2 PySem.Spec PyProof.Rows He RZ
/-! x != y by the class's own __eq__: object's __ne__ asks it and turns the answer -/
def rNeO (K : PySem.W.Frag) (C : Addr) (sp : Sp) (E : XK) : R2 := fun x y H Q => ∃ (a b dx dy : Addr) (fs gs : List (Str × V)), x = .ref a ∧ y = .ref b ∧ H a = some (.ins C dx fs) ∧ H b = some (.ins C dy gs) ∧ sp [x, y] H (fun z H' => ∃ t, z = .bl t ∧ Q (.bl (!t)) H') E
theorem ne_bind (self : Value) : bindSpecial (.builtin "object.__ne__") self = pure (.builtin "object.__ne__", [self]) :=
  (Slot.of (T := "object") (name := "__ne__") (owner := "object") (n := "__ne__") (by rw [typeLookup_type, builtinLookup_eq_fast]; kernel_rfl) (by decide +kernel) (by decide +kernel) (by decide +kernel)
    (.inl (by decide +kernel)) (by rw [isSubtype_type]; kernel_rfl)).bind self
theorem op_neOwn {X : Cx} {C f : Addr} {fd : FuncData} {ps : List Str} {sp : Sp} {n : Nat} (F : FnOk X.prog X.w X.K X.mg X.base CX0 n f fd ps sp)
    (hs : PySem.W.findIn X.K (.ref C) "__eq__" = some (some (.ref f))) (hf : PySem.W.isFn X.K (.ref f) = true) (hb : Binds X.K fd ps [])
    (hn : PySem.W.findIn X.K (.ref C) "__ne__" = some (some (.builtin "object.__ne__"))) (ho : PySem.W.mroIn X.K C (.type "object") = some true) (hr : Room (n + 1) X.A) : OpR X (compareOp .NotEq) (rNeO X.K C sp E0) := by
  intro pins s σ H x y v u Q I rx ry q
  obtain ⟨a, b, dx, dy, fs, gs, rfl, rfl, ha, hy, hsp⟩ := q
  cases rx
  cases ry
  obtain ⟨mA, J, _⟩ := ins_get I.hok ha
  obtain ⟨od, J, _⟩ := J.look
  obtain ⟨mB, J', _⟩ := ins_get I.hok hy
  obtain ⟨od', J', _⟩ := J'.look
  have KI : X.K.In s.heap := I.kIn
  have sub : PySem.W.Looks (model X.prog X.w) s.heap (isInstance (.ref a) (.type "object")) true := J.type.andThen (PySem.W.looks_mroIn KI ho)
  have run : ∀ {Q' : Value → Shared → Prop}, (∀ t s', (∃ H', Inv X pins σ H' s' ∧ Q (.bl (!t)) H') → Q' (.bool t) s') → wpAny (model X.prog X.w) X.A.in1 (call (.ref f) [.ref a, .ref b]) Q' X.xe s := fun {Q'} h =>
    run_in F hb hr.in1 rfl I (vs := [.ref a, .ref b]) (.cons rfl (.cons rfl .nil)) hsp fun w s' ⟨z, H', I', rz, t, ez, hQ⟩ => by
      subst ez
      cases rz
      exact h t s' ⟨H', I', hQ⟩
  have ib : wpAny (model X.prog X.w) X.A (callSpecialIfBound? (.ref a) "__ne__" [.ref b]) (fun r s' => ∃ t, r = some (.bool (!t)) ∧ ∃ H', Inv X pins σ H' s' ∧ Q (.bl (!t)) H') X.xe s := by
    simp only [callSpecialIfBound?, bindSpecialIfBound?]
    refine wpAny_holding (wpAny_bind (wpAny_bind (wpAny_bind (J.type.here ((PySem.W.looks_findIn KI hn).here ?_)))))
    have fin : wpAny (model X.prog X.w) X.A (call (.builtin "object.__ne__") ([.ref a] ++ [.ref b]) >>= fun v => pure (some v)) (fun r s' => ∃ t, r = some (.bool (!t)) ∧ ∃ H', Inv X pins σ H' s' ∧ Q (.bl (!t)) H') X.xe s := by
      refine wpAny_bind ?_
      refine wpAny_call (codeAny_call_builtin (by decide +kernel) PySem.F.cmpEntry_ne (@PySem.W.check_slot (model X.prog X.w) _ _ s "object.__ne__" "object" "__ne__" (.ref a) [.ref b] [] _ PySem.F.cmpKind_ne PySem.F.cmpSplit_ne sub (PySem.F.cmpArgs_ne _ _) ?_))
      unfold Builtin.«object.__ne__»
      refine wpAny_bind (wpAny_of_eq (a := (Value.ref a, [Value.ref b])) (by rfl) ?_)
      dsimp only
      refine wpAny_bind (wpAny_cRoomFor (by have := hr.un; show X.A.units + 1 < _; omega) ?_)
      refine wpAny_bind (PySem.W.ifBound_K KI J hs hf (run fun t s' h => ?_))
      dsimp only
      refine wpAny_bind (wpAny_truthy_bool ?_)
      exact wpAny_pure (wpAny_pure ⟨t, rfl, h⟩)
    refine wpAny_bind (wpAny_askSetting (wpAny_ite ?_))
    split
    · exact wpAny_bind (wpAny_of_eq (ne_bind _) (wpAny_pure (by exact fin)))
    · exact wpAny_tryCatch (wpAny_bind (wpAny_of_eq (ne_bind _) (wpAny_pure (by exact fin))))
  have one : wpAny (model X.prog X.w) X.A (tryCompare (.ref a) "__ne__" (.ref b)) (fun r s' => ∃ t, r = some (.bool (!t)) ∧ ∃ H', Inv X pins σ H' s' ∧ Q (.bl (!t)) H') X.xe s := by
    unfold tryCompare
    refine wpAny_bind (wpAny_mono ib (fun r s' z => ?_) fun _ _ e => e)
    obtain ⟨t, rfl, h⟩ := z
    exact wpAny_pure ⟨t, rfl, h⟩
  show wpAny _ _ (richCompare .NotEq (.ref a) (.ref b)) _ _ s
  unfold richCompare
  simp only [oneThing_ref]
  refine wpAny_holding (wpAny_bind (wpAny_cRoomFor (by have := hr.un; omega) ?_))
  refine wpAny_bind (J.type.here (wpAny_bind (J'.type.here ?_)))
  rw [show (Value.ref C != Value.ref C) = false from by simp]
  simp only [Bool.false_eq_true, if_false]
  refine wpAny_bind (wpAny_pure ?_)
  simp only [Bool.false_eq_true, if_false]
  refine wpAny_bind (wpAny_mono one (fun r s' z => ?_) fun _ _ e => e)
  obtain ⟨t, rfl, H', I', hQ⟩ := z
  exact wpAny_pure ⟨.bl (!t), H', I', rfl, hQ⟩
end Vf
namespace Vf
open PySem L2 PySem.Spec PyProof.Rows He RZ
def neB (x : Str) (K : PySem.W.Frag) : Bool := eqO (PySem.W.findIn K (.ref (ga K x)) "__ne__") (some (some (.builtin "object.__ne__"))) && (PySem.W.mroIn K (ga K x) (.type "object") == some true)
structure NeC (K : PySem.W.Frag) (x : Str) : Prop where
  n : PySem.W.findIn K (.ref (ga K x)) "__ne__" = some (some (.builtin "object.__ne__"))
  o : PySem.W.mroIn K (ga K x) (.type "object") = some true
theorem neB_ok {x : Str} {K : PySem.W.Frag} (c : neB x K = true) : NeC K x := by
  unfold neB at c
  obtain ⟨c1, c2⟩ := ba c
  exact ⟨eqO_ok c1, beq_iff_eq.mp c2⟩
theorem op_neC {X : Cx} {k j : Nat} {x : Str} {sp : Sp} (c : EqC X.prog X.w X.K X.mg X.base k x sp) (d : NeC X.K x) (hr : Room j X.A) (hk : k + 1 ≤ j) : OpR X (compareOp .NotEq) (rNeO X.K (ga X.K x) sp E0) := by
  obtain ⟨f, fd, ps, F, hs, hf, hb⟩ := c.ex
  exact op_neOwn F hs hf hb d.n d.o (hr.mono hk)
end Vf

namespace Vk50
open PySem PySem.Spec PyProof.Rows L2 Vf
def topS (i : Nat) : Stmt := PySem.Challenge.pw_folderkin_k50_reasons_of_winners.main.body.getD i (.Pass ⟨0, 0, 0, 0⟩)
abbrev s_count_of : Stmt := topS 1
abbrev N_count_of : List Str := ["vector", "device", "known", "count"]
theorem sc_count_of : FnScope N_count_of ["vector", "device"] (defScope s_count_of) := ⟨rfl, rfl, rfl, by decide +kernel, rfl, by decide +kernel, by decide +kernel⟩
abbrev s_join : Stmt := topS 2
abbrev N_join : List Str := ["first", "second", "counts", "device", "count"]
theorem sc_join : FnScope N_join ["first", "second"] (defScope s_join) := ⟨rfl, rfl, rfl, by decide +kernel, rfl, by decide +kernel, by decide +kernel⟩
abbrev s_vector : Stmt := topS 3
abbrev N_vector : List Str := ["counts", "device"]
theorem sc_vector : FnScope N_vector ["counts"] (defScope s_vector) := ⟨rfl, rfl, rfl, by decide +kernel, rfl, by decide +kernel, by decide +kernel⟩
abbrev s_counts_of : Stmt := topS 4
abbrev N_counts_of : List Str := ["vector", "device"]
theorem sc_counts_of : FnScope N_counts_of ["vector"] (defScope s_counts_of) := ⟨rfl, rfl, rfl, by decide +kernel, rfl, by decide +kernel, by decide +kernel⟩
abbrev s_Entry___init__ : Stmt := inClass (topS 6) 0
abbrev N_Entry___init__ : List Str := ["self", "name", "vector", "height", "maker", "deleted", "time", "blocks"]
theorem sc_Entry___init__ : FnScope N_Entry___init__ ["self", "name", "vector", "height", "maker", "deleted", "time", "blocks"] (defScope s_Entry___init__) := ⟨rfl, rfl, rfl, by decide +kernel, rfl, by decide +kernel, by decide +kernel⟩
abbrev s_Entry___eq__ : Stmt := inClass (topS 6) 1
abbrev N_Entry___eq__ : List Str := ["self", "other"]
theorem sc_Entry___eq__ : FnScope N_Entry___eq__ ["self", "other"] (defScope s_Entry___eq__) := ⟨rfl, rfl, rfl, by decide +kernel, rfl, by decide +kernel, by decide +kernel⟩
abbrev s_alike : Stmt := topS 7
abbrev N_alike : List Str := ["first", "second"]
theorem sc_alike : FnScope N_alike ["first", "second"] (defScope s_alike) := ⟨rfl, rfl, rfl, by decide +kernel, rfl, by decide +kernel, by decide +kernel⟩
abbrev s_key_of : Stmt := topS 8
abbrev N_key_of : List Str := ["entry", "device", "number", "standing"]
theorem sc_key_of : FnScope N_key_of ["entry"] (defScope s_key_of) := ⟨rfl, rfl, rfl, by decide +kernel, rfl, by decide +kernel, by decide +kernel⟩
abbrev s_winner : Stmt := topS 9
abbrev N_winner : List Str := ["entries", "best", "vector", "entry"]
theorem sc_winner : FnScope N_winner ["entries"] (defScope s_winner) := ⟨rfl, rfl, rfl, by decide +kernel, rfl, by decide +kernel, by decide +kernel⟩
abbrev s_is_integer : Stmt := topS 11
abbrev N_is_integer : List Str := ["value"]
theorem sc_is_integer : FnScope N_is_integer ["value"] (defScope s_is_integer) := ⟨rfl, rfl, rfl, by decide +kernel, rfl, by decide +kernel, by decide +kernel⟩
abbrev s_is_index : Stmt := topS 12
abbrev N_is_index : List Str := ["value", "count"]
theorem sc_is_index : FnScope N_is_index ["value", "count"] (defScope s_is_index) := ⟨rfl, rfl, rfl, by decide +kernel, rfl, by decide +kernel, by decide +kernel⟩
abbrev s_reasons : Stmt := topS 14
abbrev N_reasons : List Str := ["entries", "made", "best", "entry"]
theorem sc_reasons : FnScope N_reasons ["entries"] (defScope s_reasons) := ⟨rfl, rfl, rfl, by decide +kernel, rfl, by decide +kernel, by decide +kernel⟩
abbrev s_reason : Stmt := topS 15
abbrev N_reason : List Str := ["entry", "best", "part", "first", "second"]
theorem sc_reason : FnScope N_reason ["entry", "best"] (defScope s_reason) := ⟨rfl, rfl, rfl, by decide +kernel, rfl, by decide +kernel, by decide +kernel⟩
abbrev s_judge_winner : Stmt := topS 16
abbrev N_judge_winner : List Str := ["entries", "entry", "paper", "best", "rows", "one", "row"]
theorem sc_judge_winner : FnScope N_judge_winner ["entries", "entry", "paper"] (defScope s_judge_winner) := ⟨rfl, rfl, rfl, by decide +kernel, rfl, by decide +kernel, by decide +kernel⟩
abbrev s_takes_reason : Stmt := topS 17
abbrev N_takes_reason : List Str := ["row", "reason"]
theorem sc_takes_reason : FnScope N_takes_reason ["row", "reason"] (defScope s_takes_reason) := ⟨rfl, rfl, rfl, by decide +kernel, rfl, by decide +kernel, by decide +kernel⟩
abbrev s_law_draws : Stmt := topS 19
abbrev N_law_draws : List Str := ["script"]
theorem sc_law_draws : FnScope N_law_draws ["script"] (defScope s_law_draws) := ⟨rfl, rfl, rfl, by decide +kernel, rfl, by decide +kernel, by decide +kernel⟩
abbrev s_law_draw : Stmt := topS 20
abbrev N_law_draw : List Str := ["draws", "limit", "cell", "value"]
theorem sc_law_draw : FnScope N_law_draw ["draws", "limit"] (defScope s_law_draw) := ⟨rfl, rfl, rfl, by decide +kernel, rfl, by decide +kernel, by decide +kernel⟩
abbrev s_law_vector : Stmt := topS 21
abbrev N_law_vector : List Str := ["draws", "pairs", "device"]
theorem sc_law_vector : FnScope N_law_vector ["draws"] (defScope s_law_vector) := ⟨rfl, rfl, rfl, by decide +kernel, rfl, by decide +kernel, by decide +kernel⟩
abbrev s_law_entry : Stmt := topS 22
abbrev N_law_entry : List Str := ["draws", "height", "maker", "blocks"]
theorem sc_law_entry : FnScope N_law_entry ["draws"] (defScope s_law_entry) := ⟨rfl, rfl, rfl, by decide +kernel, rfl, by decide +kernel, by decide +kernel⟩
abbrev s_law_key : Stmt := topS 23
abbrev N_law_key : List Str := ["entry", "counts", "tail", "device"]
theorem sc_law_key : FnScope N_law_key ["entry"] (defScope s_law_key) := ⟨rfl, rfl, rfl, by decide +kernel, rfl, by decide +kernel, by decide +kernel⟩
abbrev s_law_alike : Stmt := topS 24
abbrev N_law_alike : List Str := ["first", "second"]
theorem sc_law_alike : FnScope N_law_alike ["first", "second"] (defScope s_law_alike) := ⟨rfl, rfl, rfl, by decide +kernel, rfl, by decide +kernel, by decide +kernel⟩
abbrev s_law_due : Stmt := topS 25
abbrev N_law_due : List Str := ["entries", "keys", "best", "rows", "k", "part", "entry", "at"]
theorem sc_law_due : FnScope N_law_due ["entries"] (defScope s_law_due) := ⟨rfl, rfl, rfl, by decide +kernel, rfl, by decide +kernel, by decide +kernel⟩
abbrev s_law_spoilt : Stmt := topS 26
abbrev N_law_spoilt : List Str := ["draws", "paper", "best", "rows", "at", "row", "odd", "new"]
theorem sc_law_spoilt : FnScope N_law_spoilt ["draws", "paper"] (defScope s_law_spoilt) := ⟨rfl, rfl, rfl, by decide +kernel, rfl, by decide +kernel, by decide +kernel⟩
abbrev s_law : Stmt := topS 27
abbrev N_law : List Str := ["script", "draws", "entries", "due", "found", "stands", "k", "told", "other", "odd", "value"]
theorem sc_law : FnScope N_law ["script"] (defScope s_law) := ⟨rfl, rfl, rfl, by decide +kernel, rfl, by decide +kernel, by decide +kernel⟩
structure Txt (K : PySem.W.Frag) (mg : Str → Option Value) : Prop where
  f_abs : mg "abs" = none
  f_all : mg "all" = none
  f_bool : mg "bool" = none
  f_dict : mg "dict" = none
  f_enumerate : mg "enumerate" = none
  f_int : mg "int" = none
  f_isinstance : mg "isinstance" = none
  f_len : mg "len" = none
  f_list : mg "list" = none
  f_max : mg "max" = none
  f_min : mg "min" = none
  f_range : mg "range" = none
  f_sorted : mg "sorted" = none
  f_tuple : mg "tuple" = none
  f_zip : mg "zip" = none
  cl_Entry : Cls K (He.ga K "Entry")
  g_Entry : mg "Entry" = some (.ref (He.ga K "Entry"))
  no_Entry_name : NoAttr K (He.ga K "Entry") "name"
  no_Entry_vector : NoAttr K (He.ga K "Entry") "vector"
  no_Entry_height : NoAttr K (He.ga K "Entry") "height"
  no_Entry_maker : NoAttr K (He.ga K "Entry") "maker"
  no_Entry_deleted : NoAttr K (He.ga K "Entry") "deleted"
  no_Entry_time : NoAttr K (He.ga K "Entry") "time"
  no_Entry_blocks : NoAttr K (He.ga K "Entry") "blocks"
  ct_Entry : ClsT K "Entry"
  cq_Entry : ClsL K "Entry"
  cn_Entry : NeC K "Entry"
theorem same_tup {K : PySem.W.Frag} {H H' : Hp} {a : Addr} {xs : List V} (e : Same H H') (h : SqT K H a xs) : SqT K H' a xs := by
  rcases h with (h | ⟨o, h⟩) | h
  · exact .inl (.inl (e _ _ h))
  · exact .inl (.inr ⟨o, e _ _ h⟩)
  · exact .inr h
abbrev Vc := List (Int × Int)
def cnt : Vc → Int → Int
  | [], _ => 0
  | c :: r, d => if c.1 = d then c.2 else cnt r d
def madeN (n : Nat) (f : Nat → Int) : Vc := ((List.range n).filter fun k => decide (0 < f k)).map fun k => (((k : Nat) : Int) + 1, f k)
abbrev made (f : Nat → Int) : Vc := madeN 9 f
theorem madeN_succ (n : Nat) (f : Nat → Int) : madeN (n + 1) f = madeN n f ++ (if 0 < f n then [(((n : Nat) : Int) + 1, f n)] else []) := by
  unfold madeN
  rw [List.range_succ, List.filter_append, List.map_append]
  by_cases h : 0 < f n
  · rw [if_pos h, List.filter_cons_of_pos (by rw [decide_eq_true h])]; rfl
  · rw [if_neg h, List.filter_cons_of_neg (by rw [decide_eq_false h]; exact Bool.false_ne_true)]; rfl
theorem madeN_mem {n : Nat} {f : Nat → Int} {c : Int × Int} (h : c ∈ madeN n f) : ∃ k : Nat, k < n ∧ c = (((k : Nat) : Int) + 1, f k) ∧ 0 < f k := by
  obtain ⟨k, hk, rfl⟩ := List.mem_map.mp h
  obtain ⟨h1, h2⟩ := List.mem_filter.mp hk
  exact ⟨k, List.mem_range.mp h1, rfl, of_decide_eq_true h2⟩
theorem cnt_app_ne {u : Vc} {c : Int × Int} {d : Int} (h : ¬ c.1 = d) : cnt (u ++ [c]) d = cnt u d := by
  induction u with
  | nil => show (if c.1 = d then _ else _) = _; rw [if_neg h]
  | cons x r ih => show (if x.1 = d then _ else cnt (r ++ [c]) d) = if x.1 = d then _ else _; rw [ih]
theorem cnt_app_out {u w : Vc} {d : Int} (h : ∀ c ∈ u, ¬ c.1 = d) : cnt (u ++ w) d = cnt w d := by
  induction u with
  | nil => rfl
  | cons x r ih =>
    show (if x.1 = d then _ else cnt (r ++ w) d) = _
    rw [if_neg (h x (List.mem_cons_self ..)), ih fun c hc => h c (List.mem_cons_of_mem _ hc)]
theorem cnt_madeN {f : Nat → Int} (hf : ∀ k, 0 ≤ f k) (k : Nat) : ∀ n, cnt (madeN n f) (((k : Nat) : Int) + 1) = if k < n then f k else 0
  | 0 => by rw [if_neg (by omega)]; rfl
  | n + 1 => by
    have ih := cnt_madeN hf k n
    rw [madeN_succ]
    by_cases h : k = n
    · subst h
      rw [if_pos (show k < k + 1 by omega), cnt_app_out fun c hc => ?_]
      · by_cases h0 : 0 < f k
        · rw [if_pos h0]
          show (if ((k : Nat) : Int) + 1 = ((k : Nat) : Int) + 1 then f k else 0) = _
          rw [if_pos rfl]
        · rw [if_neg h0]; have := hf k; show (0 : Int) = _; omega
      · obtain ⟨j, hj, rfl, _⟩ := madeN_mem hc
        show ¬ ((j : Nat) : Int) + 1 = _
        omega
    · have e : (if k < n + 1 then f k else 0) = if k < n then f k else 0 := by
        by_cases h2 : k < n
        · rw [if_pos h2, if_pos (by omega)]
        · rw [if_neg h2, if_neg (by omega)]
      rw [e, ← ih]
      by_cases h0 : 0 < f n
      · rw [if_pos h0, cnt_app_ne (by show ¬ ((n : Nat) : Int) + 1 = _; omega)]
      · rw [if_neg h0, List.append_nil]
theorem cnt_made {f : Nat → Int} (hf : ∀ k, 0 ≤ f k) {k : Nat} (hk : k < 9) : cnt (made f) (((k : Nat) : Int) + 1) = f k := by
  rw [cnt_madeN hf, if_pos hk]
/-- the last that was told, along a row -/
def told (g : Int → Int → Int) (v : Vc) (d i : Int) : Int := v.foldl (fun acc c => if c.1 = d then g c.2 acc else acc) i
theorem told_app (g : Int → Int → Int) (u w : Vc) (d i : Int) : told g (u ++ w) d i = told g w d (told g u d i) := by
  unfold told; rw [List.foldl_append]
theorem told_one (g : Int → Int → Int) (c : Int × Int) (d i : Int) : told g [c] d i = if c.1 = d then g c.2 i else i := rfl
theorem told_madeN (g : Int → Int → Int) {f : Nat → Int} (k : Nat) (i : Int) : ∀ n, told g (madeN n f) (((k : Nat) : Int) + 1) i = if k < n ∧ 0 < f k then g (f k) i else i
  | 0 => by rw [if_neg (by omega)]; rfl
  | n + 1 => by
    have ih := told_madeN g (f := f) k i n
    rw [madeN_succ, told_app, ih]
    by_cases h0 : 0 < f n
    · rw [if_pos h0, told_one]
      by_cases h : k = n
      · subst h
        show (if ((k : Nat) : Int) + 1 = _ then _ else _) = _
        rw [if_pos rfl, if_neg (show ¬ (k < k ∧ 0 < f k) by omega), if_pos ⟨by omega, h0⟩]
      · show (if ((n : Nat) : Int) + 1 = _ then _ else _) = _
        rw [if_neg (by omega)]
        by_cases h2 : k < n ∧ 0 < f k
        · rw [if_pos h2, if_pos ⟨by omega, h2.2⟩]
        · rw [if_neg h2, if_neg (by omega)]
    · rw [if_neg h0]
      show (if k < n ∧ 0 < f k then g (f k) i else i) = _
      by_cases h2 : k < n ∧ 0 < f k
      · rw [if_pos h2, if_pos ⟨by omega, h2.2⟩]
      · by_cases h : k = n
        · subst h
          rw [if_neg h2, if_neg (by omega)]
        · rw [if_neg h2, if_neg (by omega)]
theorem last_made {f : Nat → Int} (hf : ∀ k, 0 ≤ f k) {k : Nat} (hk : k < 9) : told (fun c _ => c) (made f) (((k : Nat) : Int) + 1) 0 = f k := by
  rw [told_madeN]
  by_cases h : 0 < f k
  · rw [if_pos ⟨hk, h⟩]
  · have := hf k
    rw [if_neg (by omega)]; omega
def mx (i j : Int) : Int := if j > i then j else i
theorem max_made {f g : Nat → Int} (hf : ∀ k, 0 ≤ f k) {k : Nat} (hk : k < 9) : told mx (made g) (((k : Nat) : Int) + 1) (f k) = mx (f k) (g k) := by
  rw [told_madeN]
  have := hf k
  by_cases h : 0 < g k
  · rw [if_pos ⟨hk, h⟩]
    unfold mx
    split <;> split <;> omega
  · rw [if_neg (by omega)]
    unfold mx
    rw [if_neg (by omega)]
def lessF (n : Nat) (f g : Nat → Int) : Bool := (List.range n).any fun k => decide (f k < g k)
theorem less_madeN {f g : Nat → Int} (hf : ∀ k, 0 ≤ f k) : ∀ n, n ≤ 9 → ((madeN n g).any fun c => decide (cnt (made f) c.1 < c.2)) = lessF n f g
  | 0, _ => rfl
  | n + 1, h => by
    have ih := less_madeN (g := g) hf n (by omega)
    have e : lessF (n + 1) f g = (lessF n f g || decide (f n < g n)) := by
      unfold lessF
      rw [List.range_succ, List.any_append]
      simp
    rw [madeN_succ, List.any_append, ih, e]
    have := hf n
    by_cases h0 : 0 < g n
    · rw [if_pos h0]
      show (_ || (decide (cnt (made f) (((n : Nat) : Int) + 1) < g n) || false)) = _
      rw [cnt_made hf (by omega), Bool.or_false]
    · rw [if_neg h0, decide_eq_false (by omega : ¬ f n < g n)]
      rfl
/-! a dict of counts -/
def kvl (m : Vc) : List (Key × V) := m.map fun c => (Sum.inl c.1, V.int c.2)
def dput (m : Vc) (k c : Int) : Vc := if (m.any fun x => decide (x.1 = k)) = true then m.map (fun x => if x.1 = k then (k, c) else x) else m ++ [(k, c)]
structure Good (m : Vc) : Prop where
  nd : (m.map (·.1)).Nodup
  rg : ∀ c ∈ m, 1 ≤ c.1 ∧ c.1 ≤ 9 ∧ 0 < c.2
theorem putK_kvl (m : Vc) (k c : Int) : putK (kvl m) (Sum.inl k) (V.int c) = kvl (dput m k c) := by
  have e1 : ((kvl m).any fun kv => decide (kv.1 = (Sum.inl k : Key))) = (m.any fun x => decide (x.1 = k)) := by
    unfold kvl
    rw [List.any_map]
    congr 1
    funext x
    exact decide_eq_decide.mpr ⟨fun h => Sum.inl.inj h, fun h => congrArg Sum.inl h⟩
  unfold putK dput
  rw [e1]
  split
  · unfold kvl
    rw [List.map_map, List.map_map]
    refine List.map_congr_left fun x _ => ?_
    show (if (Sum.inl x.1 : Key) = Sum.inl k then _ else _) = (fun c : Int × Int => ((Sum.inl c.1 : Key), V.int c.2)) (if x.1 = k then (k, c) else x)
    by_cases h : x.1 = k
    · rw [if_pos h, if_pos (congrArg Sum.inl h)]
      show ((Sum.inl x.1 : Key), V.int c) = (Sum.inl k, V.int c)
      rw [h]
    · rw [if_neg h, if_neg fun q => h (Sum.inl.inj q)]
  · unfold kvl
    rw [List.map_append]
    rfl
theorem valV_kvl (m : Vc) (d : Int) : ((valV (kvl m) (Sum.inl d : Key)).getD (.int 0) = .int (cnt m d)) ∧ (∀ c ∈ m, c.1 = d → valV (kvl m) (Sum.inl d : Key) = some (.int (cnt m d))) := by
  induction m with
  | nil => exact ⟨rfl, fun c hc => by cases hc⟩
  | cons x r ih =>
    have e : valV (kvl (x :: r)) (Sum.inl d : Key) = if x.1 = d then some (.int x.2) else valV (kvl r) (Sum.inl d : Key) := by
      unfold valV kvl
      rw [List.map_cons, List.find?_cons]
      by_cases h : x.1 = d
      · rw [if_pos h, decide_eq_true (congrArg Sum.inl h)]; rfl
      · rw [if_neg h, decide_eq_false fun q => h (Sum.inl.inj q)]
    rw [e]
    show (_ = V.int (if x.1 = d then x.2 else cnt r d)) ∧ _
    by_cases h : x.1 = d
    · rw [if_pos h, if_pos h]
      exact ⟨rfl, fun _ _ _ => by show _ = some (V.int (if x.1 = d then x.2 else cnt r d)); rw [if_pos h]⟩
    · rw [if_neg h, if_neg h]
      refine ⟨ih.1, fun c hc q => ?_⟩
      show _ = some (V.int (if x.1 = d then x.2 else cnt r d))
      rw [if_neg h]
      rcases List.mem_cons.mp hc with rfl | hc
      · exact absurd q h
      · exact ih.2 c hc q
theorem cnt_pos {m : Vc} (g : Good m) {d : Int} : (∃ c ∈ m, c.1 = d) ↔ 0 < cnt m d := by
  have := g.rg
  clear g
  induction m with
  | nil => exact ⟨fun ⟨c, hc, _⟩ => (by cases hc), fun h => absurd h (by show ¬ (0 : Int) < 0; omega)⟩
  | cons x r ih =>
    have ih : (∃ c ∈ r, c.1 = d) ↔ 0 < cnt r d := ih fun c hc => this c (List.mem_cons_of_mem _ hc)
    have hx := this x (List.mem_cons_self ..)
    show _ ↔ 0 < if x.1 = d then x.2 else cnt r d
    by_cases h : x.1 = d
    · rw [if_pos h]
      exact ⟨fun _ => hx.2.2, fun _ => ⟨x, List.mem_cons_self .., h⟩⟩
    · rw [if_neg h]
      refine Iff.trans ?_ ih
      constructor
      · rintro ⟨c, hc, q⟩
        rcases List.mem_cons.mp hc with rfl | hc
        · exact absurd q h
        · exact ⟨c, hc, q⟩
      · rintro ⟨c, hc, q⟩
        exact ⟨c, List.mem_cons_of_mem _ hc, q⟩
theorem cnt_dput (m : Vc) (k c d : Int) : cnt (dput m k c) d = if k = d then c else cnt m d := by
  unfold dput
  split
  · rename_i h
    have key : ∀ m : Vc, (m.any fun x => decide (x.1 = k)) = true → cnt (m.map fun x => if x.1 = k then (k, c) else x) d = if k = d then c else cnt m d := by
      intro m
      have none : ∀ m : Vc, ¬ k = d → cnt (m.map fun x => if x.1 = k then (k, c) else x) d = cnt m d := by
        intro m hk
        induction m with
        | nil => rfl
        | cons x r ih =>
          show cnt ((if x.1 = k then (k, c) else x) :: r.map _) d = if x.1 = d then x.2 else cnt r d
          by_cases hx : x.1 = k
          · rw [if_pos hx]
            show (if k = d then c else _) = _
            rw [if_neg hk, if_neg (by rw [hx]; exact hk), ih]
          · rw [if_neg hx]
            show (if x.1 = d then x.2 else _) = _
            rw [ih]
      induction m with
      | nil => intro h; cases h
      | cons x r ih =>
        intro h
        by_cases hk : k = d
        · rw [if_pos hk]
          show cnt ((if x.1 = k then (k, c) else x) :: r.map _) d = c
          by_cases hx : x.1 = k
          · rw [if_pos hx]
            show (if k = d then c else _) = _
            rw [if_pos hk]
          · rw [if_neg hx]
            show (if x.1 = d then x.2 else _) = _
            rw [if_neg (by rw [← hk]; exact hx)]
            have h2 : (r.any fun x => decide (x.1 = k)) = true := by
              rw [List.any_cons, decide_eq_false hx, Bool.false_or] at h
              exact h
            rw [ih h2, if_pos hk]
        · rw [if_neg hk]
          exact none _ hk
    exact key m h
  · rename_i h
    have out : ∀ x ∈ m, ¬ x.1 = k := fun x hx q => h (List.any_eq_true.mpr ⟨x, hx, decide_eq_true q⟩)
    by_cases hk : k = d
    · rw [if_pos hk, cnt_app_out (by rw [← hk]; exact out)]
      show (if k = d then c else _) = _
      rw [if_pos hk]
    · rw [if_neg hk, cnt_app_ne hk]
theorem good_dput {m : Vc} (g : Good m) {k c : Int} (h1 : 1 ≤ k) (h9 : k ≤ 9) (hc : 0 < c) : Good (dput m k c) := by
  unfold dput
  split
  · refine ⟨?_, fun x hx => ?_⟩
    · have e : (m.map fun x => if x.1 = k then (k, c) else x).map (·.1) = m.map (·.1) := by
        rw [List.map_map]
        refine List.map_congr_left fun x _ => ?_
        show (if x.1 = k then (k, c) else x).1 = x.1
        by_cases h : x.1 = k
        · rw [if_pos h, h]
        · rw [if_neg h]
      rw [e]; exact g.nd
    · obtain ⟨y, hy, rfl⟩ := List.mem_map.mp hx
      by_cases h : y.1 = k
      · rw [if_pos h]; exact ⟨h1, h9, hc⟩
      · rw [if_neg h]; exact g.rg y hy
  · rename_i h
    have out : ∀ x ∈ m, ¬ x.1 = k := fun x hx q => h (List.any_eq_true.mpr ⟨x, hx, decide_eq_true q⟩)
    refine ⟨?_, fun x hx => ?_⟩
    · rw [List.map_append, List.nodup_append]
      refine ⟨g.nd, by simp, fun a ha b hb => ?_⟩
      obtain ⟨x, hx, rfl⟩ := List.mem_map.mp ha
      have hb : b = k := by simpa using hb
      rw [hb]; exact out x hx
    · rcases List.mem_append.mp hx with hx | hx
      · exact g.rg x hx
      · rw [List.mem_singleton.mp hx]; exact ⟨h1, h9, hc⟩
theorem merge_kvl (v : Vc) : ∀ m : Vc, mergeK (kvl m) (kvl v) = kvl (v.foldl (fun m c => dput m c.1 c.2) m) := by
  induction v with
  | nil => intro m; rfl
  | cons x r ih =>
    intro m
    show mergeK (putK (kvl m) (Sum.inl x.1) (V.int x.2)) (kvl r) = _
    rw [putK_kvl, ih]
    rfl
theorem fold_good (v : Vc) (hv : ∀ c ∈ v, 1 ≤ c.1 ∧ c.1 ≤ 9 ∧ 0 < c.2) : ∀ m : Vc, Good m → Good (v.foldl (fun m c => dput m c.1 c.2) m) := by
  induction v with
  | nil => intro m g; exact g
  | cons x r ih =>
    intro m g
    have hx := hv x (List.mem_cons_self ..)
    exact ih (fun c hc => hv c (List.mem_cons_of_mem _ hc)) _ (good_dput g hx.1 hx.2.1 hx.2.2)
theorem fold_cnt (v : Vc) (d : Int) : ∀ m : Vc, cnt (v.foldl (fun m c => dput m c.1 c.2) m) d = told (fun c _ => c) v d (cnt m d) := by
  induction v with
  | nil => intro m; rfl
  | cons x r ih =>
    intro m
    show cnt (r.foldl (fun m c => dput m c.1 c.2) (dput m x.1 x.2)) d = told (fun c _ => c) r d (if x.1 = d then x.2 else cnt m d)
    rw [ih, cnt_dput]
theorem made_rg {f : Nat → Int} : ∀ c ∈ made f, 1 ≤ c.1 ∧ c.1 ≤ 9 ∧ 0 < c.2 := fun c hc => by
  obtain ⟨k, hk, rfl, h0⟩ := madeN_mem hc
  exact ⟨by show (1 : Int) ≤ ((k : Nat) : Int) + 1; omega, by show ((k : Nat) : Int) + 1 ≤ 9; omega, h0⟩
/-- a rising row of numbers from 1 to n is told by what is in it -/
theorem rising (n : Nat) : ∀ ys : List Int, ys.Pairwise (· < ·) → (∀ y ∈ ys, 1 ≤ y ∧ y ≤ n) → ys = ((List.range n).filter fun k => decide ((((k : Nat) : Int) + 1) ∈ ys)).map fun k => ((k : Nat) : Int) + 1 := by
  induction n with
  | zero =>
    intro ys _ h
    cases ys with
    | nil => rfl
    | cons y r => have := h y (List.mem_cons_self ..); omega
  | succ n ih =>
    intro ys hp h
    by_cases hm : (((n : Nat) : Int) + 1) ∈ ys
    · obtain ⟨u, w, e⟩ := List.append_of_mem hm
      have hw : w = [] := by
        cases w with
        | nil => rfl
        | cons z w =>
          rw [e, List.pairwise_append] at hp
          have h1 := (List.pairwise_cons.mp hp.2.1).1 z (List.mem_cons_self ..)
          have h2 := h z (by rw [e]; simp)
          omega
      subst hw
      have hu : u.Pairwise (· < ·) := by rw [e, List.pairwise_append] at hp; exact hp.1
      have hlt : ∀ y ∈ u, y < ((n : Nat) : Int) + 1 := fun y hy => by
        rw [e, List.pairwise_append] at hp
        exact hp.2.2 y hy _ (by simp)
      have iu := ih u hu fun y hy => ⟨(h y (by rw [e]; simp [hy])).1, by have := hlt y hy; omega⟩
      have ef : ((List.range (n + 1)).filter fun k => decide ((((k : Nat) : Int) + 1) ∈ ys)) = ((List.range n).filter fun k => decide ((((k : Nat) : Int) + 1) ∈ u)) ++ [n] := by
        have e1 : ((List.range n).filter fun k => decide ((((k : Nat) : Int) + 1) ∈ ys)) = ((List.range n).filter fun k => decide ((((k : Nat) : Int) + 1) ∈ u)) := by
          refine List.filter_congr fun k hk => ?_
          have hk := List.mem_range.mp hk
          refine decide_eq_decide.mpr ?_
          rw [e, List.mem_append, List.mem_singleton]
          exact ⟨fun q => q.resolve_right (by omega), .inl⟩
        rw [List.range_succ, List.filter_append, List.filter_cons_of_pos (by rw [decide_eq_true hm]), List.filter_nil, e1]
      rw [ef, List.map_append, ← iu, e]
      rfl
    · have iu := ih ys hp fun y hy => ⟨(h y hy).1, by
        have h1 := (h y hy).2
        have h2 : ¬ y = ((n : Nat) : Int) + 1 := fun q => hm (q ▸ hy)
        omega⟩
      rw [List.range_succ, List.filter_append, List.filter_cons_of_neg (by rw [decide_eq_false hm]; exact Bool.false_ne_true), List.filter_nil, List.append_nil]
      exact iu
/-- sorted keys with their counts -/
theorem vector_made {m : Vc} (g : Good m) {ys : List Int} (hp : ys.Perm (m.map (·.1))) (hs : ys.Pairwise (· ≤ ·)) : ys.map (fun y => (y, cnt m y)) = made fun k => cnt m (((k : Nat) : Int) + 1) := by
  have nd : ys.Nodup := hp.nodup_iff.mpr g.nd
  have lt : ys.Pairwise (· < ·) := by
    have := List.Pairwise.and hs nd
    exact this.imp fun h => by omega
  have mem : ∀ y, y ∈ ys ↔ ∃ c ∈ m, c.1 = y := fun y => by rw [hp.mem_iff, List.mem_map]
  have rg : ∀ y ∈ ys, 1 ≤ y ∧ y ≤ ((9 : Nat) : Int) := fun y hy => by
    obtain ⟨c, hc, rfl⟩ := (mem y).mp hy
    have := g.rg c hc
    omega
  have e := rising 9 ys lt rg
  have ef : ((List.range 9).filter fun k => decide ((((k : Nat) : Int) + 1) ∈ ys)) = ((List.range 9).filter fun k => decide (0 < cnt m (((k : Nat) : Int) + 1))) :=
    List.filter_congr fun k _ => decide_eq_decide.mpr ((mem _).trans (cnt_pos g))
  rw [ef] at e
  rw [e, List.map_map]
  rfl
theorem paired_imp {α β : Type} {R S : α → β → Prop} (h : ∀ a b, R a b → S a b) : ∀ {xs : List α} {ys : List β}, Paired R xs ys → Paired S xs ys
  | _, _, .nil => .nil
  | _, _, .cons a b => .cons (h _ _ a) (paired_imp h b)
theorem paired_get {α β : Type} {R : α → β → Prop} : ∀ {xs : List α} {ys : List β}, Paired R xs ys → ∀ (i : Nat) (x : α), xs[i]? = some x → ∃ y, ys[i]? = some y ∧ R x y
  | _, _, .nil, i, x, h => by simp at h
  | _, _, .cons a b, 0, x, h => by cases (Option.some.inj h); exact ⟨_, rfl, a⟩
  | _, _, .cons a b, i + 1, x, h => by
    obtain ⟨y, h1, h2⟩ := paired_get b i x (by simpa using h)
    exact ⟨y, by simpa using h1, h2⟩
theorem paired_len {α β : Type} {R : α → β → Prop} : ∀ {xs : List α} {ys : List β}, Paired R xs ys → xs.length = ys.length
  | _, _, .nil => rfl
  | _, _, .cons a b => by rw [List.length_cons, List.length_cons, paired_len b]
theorem paired_snoc {α β : Type} {R : α → β → Prop} : ∀ {xs : List α} {ys : List β} {x : α} {y : β}, Paired R xs ys → R x y → Paired R (xs ++ [x]) (ys ++ [y])
  | _, _, _, _, .nil, h => .cons h .nil
  | _, _, _, _, .cons a b, h => .cons a (paired_snoc b h)
abbrev Prs (K : PySem.W.Frag) (H : Hp) (ps : List Addr) (v : Vc) : Prop := Paired (fun p (c : Int × Int) => SqT K H p [.int c.1, .int c.2]) ps v
def Vec (K : PySem.W.Frag) (H : Hp) (a : Addr) (v : Vc) : Prop := ∃ ps : List Addr, SqT K H a (ps.map V.ref) ∧ Prs K H ps v
def PVec (K : PySem.W.Frag) (H : Hp) (a : Addr) (v : Vc) : Prop := ∃ ps : List Addr, PlT H a (ps.map V.ref) ∧ Prs K H ps v
theorem prs_same {K : PySem.W.Frag} {H H' : Hp} {ps : List Addr} {v : Vc} (e : Same H H') (h : Prs K H ps v) : Prs K H' ps v := paired_imp (fun _ _ q => same_tup e q) h
theorem Vec.same {K : PySem.W.Frag} {H H' : Hp} {a : Addr} {v : Vc} (h : Vec K H a v) (e : Same H H') : Vec K H' a v := by
  obtain ⟨ps, h1, h2⟩ := h
  exact ⟨ps, same_tup e h1, prs_same e h2⟩
theorem PVec.same {K : PySem.W.Frag} {H H' : Hp} {a : Addr} {v : Vc} (h : PVec K H a v) (e : Same H H') : PVec K H' a v := by
  obtain ⟨ps, h1, h2⟩ := h
  exact ⟨ps, h1.same e, prs_same e h2⟩
theorem PVec.vec {K : PySem.W.Frag} {H : Hp} {a : Addr} {v : Vc} (h : PVec K H a v) : Vec K H a v := by
  obtain ⟨ps, h1, h2⟩ := h
  exact ⟨ps, h1.seq, h2⟩
theorem for_vec {K : PySem.W.Frag} {g : TG} {t : TS} {D : Ends} {σ : L2.St} {H H0 : Hp} {a : Addr} {v : Vc} {ps : List Addr} (hS : SqT K H0 a (ps.map V.ref)) (hP : Prs K H0 ps v) (Pv : Vc → L2.St → Hp → Prop) (h0 : Pv [] σ H) (hl : ∀ pre σ H, Pv pre σ H → Same H0 H)
    (hs : ∀ (pre : Vc) (c : Int × Int) (post : Vc) (T : Addr) σ H, v = pre ++ c :: post → Pv pre σ H → SqT K H T [.int c.1, .int c.2] → g (.ref T) σ H fun σ2 H2 => t { D with nx := Pv (pre ++ [c]), ct := Pv (pre ++ [c]), bk := D.nx } σ2 H2)
    (hd : ∀ σ H, Pv v σ H → D.nx σ H) : ForB (Itt K a) g t D σ H := by
  refine for_tup (xs := ps.map V.ref) (fun i => Pv (v.take i)) (by simpa using h0) (fun i σ H _ p => same_tup (hl _ σ H p) hS) (fun i x σ H hx p => ?_) (fun σ H p => ?_)
  · rw [List.getElem?_map] at hx
    obtain ⟨T, hT, rfl⟩ := Option.map_eq_some_iff.mp hx
    obtain ⟨c, hc, q⟩ := paired_get hP i T hT
    have e2 := (List.getElem?_eq_some_iff.mp hc).2
    have e1 : v = v.take i ++ c :: v.drop (i + 1) := by rw [← e2, List.getElem_cons_drop, List.take_append_drop]
    rw [List.take_add_one, hc]
    exact hs _ c _ T σ H e1 p (same_tup (hl _ σ H p) q)
  · rw [List.length_map, paired_len hP, List.take_length] at p
    exact hd σ H p
def lessV (v w : Vc) : Bool := w.any fun c => decide (cnt v c.1 < c.2)
def cmpS (a b : Bool) : Str := if a = true then (if b = true then "apart" else "less") else if b = true then "greater" else "equal"
theorem dput_len (m : Vc) (k c : Int) : (dput m k c).length ≤ m.length + 1 := by
  unfold dput
  split <;> simp
theorem fold_len (v : Vc) : ∀ m : Vc, (v.foldl (fun m c => dput m c.1 c.2) m).length ≤ m.length + v.length := by
  induction v with
  | nil => intro m; exact Nat.le_refl _
  | cons x r ih =>
    intro m
    have h1 := ih (dput m x.1 x.2)
    have h2 := dput_len m x.1 x.2
    show (r.foldl (fun m c => dput m c.1 c.2) (dput m x.1 x.2)).length ≤ _
    rw [List.length_cons]
    omega
theorem made_len (f : Nat → Int) : (made f).length ≤ 9 := by
  unfold made madeN
  rw [List.length_map]
  exact Nat.le_trans (List.length_filter_le ..) (by rw [List.length_range]; exact Nat.le_refl _)
theorem made_congr {f g : Nat → Int} (h : ∀ k, k < 9 → f k = g k) : made f = made g := by
  unfold made madeN
  have e : ((List.range 9).filter fun k => decide (0 < f k)) = ((List.range 9).filter fun k => decide (0 < g k)) :=
    List.filter_congr fun k hk => by rw [h k (List.mem_range.mp hk)]
  rw [e]
  refine List.map_congr_left fun k hk => ?_
  rw [h k (List.mem_range.mp (List.mem_filter.mp hk).1)]
def row9 (f : Nat → Int) : List Int := (List.range 9).map f
def sp_count_of (K : PySem.W.Frag) : Sp := sp2 fun x y H Q => ∃ (a : Addr) (v : Vc) (d : Int), x = .ref a ∧ y = .int d ∧ Vec K H a v ∧ Q (.int (cnt v d)) H
def sp_is_less_somewhere (K : PySem.W.Frag) : Sp := sp2 fun x y H Q => ∃ (a b : Addr) (v w : Vc), x = .ref a ∧ y = .ref b ∧ Vec K H a v ∧ Vec K H b w ∧ Q (.bl (lessV v w)) H
def sp_compare (K : PySem.W.Frag) : Sp := sp2 fun x y H Q => ∃ (a b : Addr) (v w : Vc), x = .ref a ∧ y = .ref b ∧ Vec K H a v ∧ Vec K H b w ∧ Q (.str (cmpS (lessV v w) (lessV w v))) H
def sp_vector (K : PySem.W.Frag) : Sp := sp1 fun x H Q => ∃ (D : Addr) (m : Vc), x = .ref D ∧ H D = some (.dK (kvl m)) ∧ Good m ∧ m.length ≤ 40 ∧ ∀ (r : Addr) (H' : Hp), Same H H' → PVec K H' r (made fun k => cnt m (((k : Nat) : Int) + 1)) → Q (.ref r) H'
def sp_join (K : PySem.W.Frag) : Sp := sp2 fun x y H Q => ∃ (a b : Addr) (f g : Nat → Int), x = .ref a ∧ y = .ref b ∧ (∀ k, 0 ≤ f k) ∧ (∀ k, 0 ≤ g k) ∧ PVec K H a (made f) ∧ Vec K H b (made g) ∧ ∀ (r : Addr) (H' : Hp), Same H H' → PVec K H' r (made fun k => mx (f k) (g k)) → Q (.ref r) H'
def sp_raised (K : PySem.W.Frag) : Sp := sp3 fun x y z H Q => ∃ (a : Addr) (f : Nat → Int) (j : Nat) (n : Int), x = .ref a ∧ y = .int (((j : Nat) : Int) + 1) ∧ z = .int n ∧ j < 9 ∧ 0 < n ∧ (∀ k, 0 ≤ f k) ∧ PVec K H a (made f) ∧ ∀ (r : Addr) (H' : Hp), Same H H' → PVec K H' r (made fun k => if k = j then n else f k) → Q (.ref r) H'
def sp_counts_of (K : PySem.W.Frag) : Sp := sp1 fun x H Q => ∃ (a : Addr) (f : Nat → Int), x = .ref a ∧ (∀ k, 0 ≤ f k) ∧ Vec K H a (made f) ∧ ∀ (r : Addr) (H' : Hp), Same H H' → SqT K H' r ((row9 f).map V.int) → Q (.ref r) H'
def sp_law_cell (K : PySem.W.Frag) : Sp := sp2 fun x y H Q => ∃ (a : Addr) (ns : List Int) (i : Nat), x = .ref a ∧ y = .int i ∧ SqL K H a (ns.map V.int) ∧ ns.length ≤ 1000 ∧ i ≤ 1000 ∧ ∀ n, Q (.int n) H
def sp_law_counts (K : PySem.W.Frag) : Sp := sp1 fun x H Q => ∃ (a : Addr) (f : Nat → Int), x = .ref a ∧ (∀ k, 0 ≤ f k) ∧ Vec K H a (made f) ∧ ∀ (r : Addr) (H' : Hp), H r = none → Same H H' → H' r = some (.lst ((row9 f).map V.int)) → Q (.ref r) H'
def sp_law_made (K : PySem.W.Frag) : Sp := sp1 fun x H Q => ∃ (a : Addr) (f : Nat → Int), x = .ref a ∧ SqL K H a ((row9 f).map V.int) ∧ ∀ (r : Addr) (H' : Hp), Same H H' → Vec K H' r (made f) → Q (.ref r) H'
theorem e_tDGet {td ty : TE} {σ : L2.St} {H : Hp} {Q : VK} (q : td σ H fun x H1 => ty σ H1 fun y H2 => ∃ a v, x = .ref a ∧ DGet H2 a y (some v) ∧ Q v H2) : tDGet td ty σ H Q := q
theorem e_tDGet2 {td ty tx : TE} {σ : L2.St} {H : Hp} {Q : VK} (q : td σ H fun x H1 => ∃ a, x = .ref a ∧ IsD H1 a ∧ ty σ H1 fun y H2 => tx σ H2 fun z H3 => ∃ o, DGet H3 a y o ∧ Q (o.getD z) H3) : tDGet2 td ty tx σ H Q := q
theorem e_sDPut {td ty tv : TE} {σ : L2.St} {H : Hp} {D : Ends} (q : tv σ H fun v H1 => td σ H1 fun x H2 => ty σ H2 fun y H3 => ∃ a H4, x = .ref a ∧ DPut H3 a y v H4 ∧ D.nx σ H4) : sDPut td ty tv D σ H := q
theorem dg_some {H : Hp} {D : Addr} {m : Vc} {d : Int} {Q : V → Prop} (h : H D = some (.dK (kvl m))) (hc : ∃ c ∈ m, c.1 = d) (q : Q (.int (cnt m d))) : ∃ a v, V.ref D = .ref a ∧ DGet H a (.int d) (some v) ∧ Q v := by
  obtain ⟨c, h1, h2⟩ := hc
  refine ⟨D, _, rfl, ?_, q⟩
  rw [← (valV_kvl m d).2 c h1 h2]
  exact DGet.k (k := Sum.inl d) h
theorem dg_or {H : Hp} {D : Addr} {m : Vc} {d : Int} {Q : Option V → Prop} (h : H D = some (.dK (kvl m))) (q : ∀ o : Option V, o.getD (.int 0) = .int (cnt m d) → Q o) : ∃ o, DGet H D (.int d) o ∧ Q o :=
  ⟨_, DGet.k (k := Sum.inl d) h, q _ (valV_kvl m d).1⟩
theorem dp_put {H : Hp} {D : Addr} {m : Vc} {k c : Int} {Q : Hp → Prop} (h : H D = some (.dK (kvl m))) (hl : m.length ≤ 100) (q : Q (upd H D (.dK (kvl (dput m k c))))) : ∃ a H4, V.ref D = .ref a ∧ DPut H a (.int k) (.int c) H4 ∧ Q H4 :=
  ⟨D, _, rfl, .inl ⟨kvl m, Sum.inl k, h, rfl, Nat.lt_of_le_of_lt (by unfold kvl; rw [List.length_map]; exact hl) (by decide), rfl⟩, by rw [putK_kvl]; exact q⟩
theorem prs_kvl {K : PySem.W.Frag} {H : Hp} : ∀ {ps : List Addr} {v : Vc}, Prs K H ps v → Paired (fun p (kv : Key × V) => SqT K H p [kV kv.1, kv.2]) ps (kvl v)
  | _, _, .nil => .nil
  | _, _, .cons a b => .cons a (prs_kvl b)
theorem dict_made {f : Nat → Int} (hf : ∀ k, 0 ≤ f k) : ∃ m, mergeK [] (kvl (made f)) = kvl m ∧ Good m ∧ m.length ≤ 9 ∧ ∀ k : Nat, k < 9 → cnt m (((k : Nat) : Int) + 1) = f k :=
  ⟨_, merge_kvl (made f) [], fold_good (made f) made_rg [] ⟨by simp, fun c hc => by cases hc⟩, Nat.le_trans (fold_len (made f) []) (by rw [List.length_nil, Nat.zero_add]; exact made_len f), fun k hk => by rw [fold_cnt]; exact last_made hf hk⟩
abbrev Prx (H : Hp) (ps : List Addr) (v : Vc) : Prop := Paired (fun p (c : Int × Int) => H p = some (.tup [.int c.1, .int c.2])) ps v
theorem Prx.upd {H : Hp} {ps : List Addr} {v : Vc} {E : Addr} {l : List V} {o : HO} (h : Prx H ps v) (e : H E = some (.lst l)) : Prx (upd H E o) ps v :=
  paired_imp (fun p c q => by
    have n : p ≠ E := fun z => by
      rw [z, e] at q
      cases q
    rw [upd_ne n]; exact q) h
theorem Prx.same {H H' : Hp} {ps : List Addr} {v : Vc} (h : Prx H ps v) (e : Same H H') : Prx H' ps v := paired_imp (fun _ _ q => e _ _ q) h
theorem Prx.prs {K : PySem.W.Frag} {H : Hp} {ps : List Addr} {v : Vc} (h : Prx H ps v) : Prs K H ps v := paired_imp (fun _ _ q => SqT.of q) h
theorem row9_at (f : Nat → Int) {i : Nat} (h : i < 9) {j : Int} (hj : j = i) : atI ((row9 f).map V.int) j = some (.int (f i)) :=
  at_of (j := i) hj (by rw [List.getElem?_map, row9, List.getElem?_map, List.getElem?_range h]; rfl)
theorem row9_set (f : Nat → Int) {i : Nat} (h : i < 9) (n : Int) : (row9 f).set i n = row9 fun k => if k = i then n else f k := by
  refine List.ext_getElem? fun k => ?_
  rw [List.getElem?_set]
  unfold row9
  by_cases hk : k < 9
  · have r1 : ((List.range 9).map fun k => if k = i then n else f k)[k]? = some (if k = i then n else f k) := by rw [List.getElem?_map, List.getElem?_range hk]; rfl
    have r2 : ((List.range 9).map f)[k]? = some (f k) := by rw [List.getElem?_map, List.getElem?_range hk]; rfl
    rw [r1, r2]
    by_cases e : i = k
    · rw [if_pos e, if_pos (by simp; omega), if_pos e.symm]
    · rw [if_neg e, if_neg fun q => e q.symm]
  · rw [List.getElem?_eq_none (l := (List.range 9).map fun k => if k = i then n else f k) (by simp; omega)]
    by_cases e : i = k
    · omega
    · rw [if_neg e, List.getElem?_eq_none (by simp; omega)]
theorem row9_inj {f g : Nat → Int} (h : ∀ k, k < 9 → f k = g k) : row9 f = row9 g := List.map_congr_left fun k hk => h k (List.mem_range.mp hk)
theorem row9_len (f : Nat → Int) : ((row9 f).map V.int).length = 9 := by unfold row9; simp
theorem p2 (n : Int) {i : Nat} (h : i < 9) : CDivW n (1 * 2 ^ (1 + (i : Int)).toNat) := by
  have e : (1 + (i : Int)).toNat = i + 1 := by omega
  rw [e]
  have : i = 0 ∨ i = 1 ∨ i = 2 ∨ i = 3 ∨ i = 4 ∨ i = 5 ∨ i = 6 ∨ i = 7 ∨ i = 8 := by omega
  rcases this with h | h | h | h | h | h | h | h | h <;> rw [h] <;> exact ⟨by decide, by decide⟩
theorem lc_filt {K : PySem.W.Frag} {g : TG} {tt : TT} {te : TE} {vs : List Nat} {σ : L2.St} {Da : Addr} {H0 : Hp} {Q : VK} {lo : Int} {n : Nat} (hD : H0 Da = none) (hn : n ≤ 1000000) (p : Nat → Bool) (f : Nat → V)
    (hs : ∀ (i : Nat) (H2 : Hp) (C : VK) (E : Hp → Prop), i < n → Same H0 H2 → (p i = true → ∀ H3, Same H2 H3 → C (f i) H3) → (p i = false → ∀ H3, Same H2 H3 → E H3) →
      g (.int (lo + (i : Nat))) (wipe σ vs) H2 fun σ2 H2 => wipe σ2 vs = wipe σ vs ∧ tt σ2 H2 fun b H3 => if b = true then te σ2 H3 C else E H3)
    (hd : ∀ (H : Hp), Same H0 H → H Da = some (.lst (((List.range n).filter p).map f)) → Q (.ref Da) H) : LcB (Itr lo n) g tt te vs σ Da H0 Q := by
  refine lc_rng (fun i H2 => Same H0 H2 ∧ H2 Da = some (.lst (((List.range i).filter p).map f))) ⟨same_new hD, upd_same⟩ (fun i H2 hi q => ?_) (fun H2 q => hd H2 q.1 q.2)
  obtain ⟨s4, e4⟩ := q
  refine hs i H2 _ _ hi s4 (fun hp H3 s5 => ?_) (fun hp H3 s5 => ?_)
  · refine ⟨_, s5 _ _ e4, Nat.lt_of_le_of_lt (Nat.le_trans (by rw [List.length_map]; exact List.length_filter_le ..) (by rw [List.length_range]; omega : _ ≤ 1000000)) (by decide), Same.mut (s4.trans s5) hD, ?_⟩
    rw [upd_same, List.range_succ, List.filter_append, List.filter_cons_of_pos hp, List.map_append]
    rfl
  · refine ⟨s4.trans s5, ?_⟩
    rw [s5 _ _ e4, List.range_succ, List.filter_append, List.filter_cons_of_neg (by rw [hp]; exact Bool.false_ne_true), List.filter_nil, List.append_nil]
theorem nil_less (f g : Nat → Int) (h : Nat → Int) : decide ((((List.range 9).filter fun k => decide (f k < g k)).map h) = []) = !lessF 9 f g := by
  unfold lessF
  cases e : (List.range 9).any fun k => decide (f k < g k) with
  | true =>
    obtain ⟨k, hk, q⟩ := List.any_eq_true.mp e
    refine decide_eq_false fun z => ?_
    have : (List.range 9).filter (fun k => decide (f k < g k)) = [] := List.map_eq_nil_iff.mp z
    have m : k ∈ (List.range 9).filter (fun k => decide (f k < g k)) := List.mem_filter.mpr ⟨hk, q⟩
    rw [this] at m
    cases m
  | false =>
    refine decide_eq_true ?_
    rw [List.filter_eq_nil_iff.mpr fun k hk => by
      have := List.any_eq_false.mp e k hk
      exact this]
    rfl
/-! vectors as data -/
abbrev Dv (v : Vc) : List PyData := v.map fun c => .tuple [.int c.1, .int c.2]
theorem dv_all {K : PySem.W.Frag} {H : Hp} : ∀ {ps : List Addr} {v : Vc}, Prs K H ps v → DpAll K H (ps.map V.ref) (Dv v)
  | _, _, .nil => .nil
  | _, _, .cons (b := c) a b => .cons (.tup (xs := [.int c.1, .int c.2]) a (.cons (.int _) (.cons (.int _) .nil))) (dv_all b)
theorem dv_eqv : ∀ v w : Vc, PyData.eqvAll (Dv v) (Dv w) = decide (v = w)
  | [], [] => by
    simp [PyData.eqvAll]
  | [], _ :: _ => by
    simp [PyData.eqvAll]
  | _ :: _, [] => by
    simp [PyData.eqvAll]
  | c :: v, d :: w => by
    have ih := dv_eqv v w
    show (PyData.eqvAll (Di [c.1, c.2]) (Di [d.1, d.2]) && PyData.eqvAll (Dv v) (Dv w)) = _
    rw [ih, eqvAll_ints]
    obtain ⟨c1, c2⟩ := c
    obtain ⟨d1, d2⟩ := d
    by_cases h1 : c1 = d1 <;> by_cases h2 : c2 = d2 <;> by_cases h3 : v = w <;> simp [h1, h2, h3]
theorem dv_can : ∀ v : Vc, PyData.canLayAll0 (Dv v) = true
  | [] => rfl
  | c :: v => by
    show (PyData.canLayAll0 (Di [c.1, c.2]) && PyData.canLayAll0 (Dv v)) = true
    rw [dv_can v, canAll_ints]; rfl
theorem dv_depth : ∀ v : Vc, PyData.depthAll (Dv v) ≤ 1
  | [] => by
    show 0 ≤ 1
    omega
  | c :: v => by
    have ih := dv_depth v
    show max (PyData.depthAll (Di [c.1, c.2]) + 1) (PyData.depthAll (Dv v)) ≤ 1
    rw [Vf.depthAll_ints]
    omega
theorem e_neVV {K : PySem.W.Frag} {H : Hp} {Q : VK} {a b : Addr} {v w : Vc} (h1 : Vec K H a v) (h2 : Vec K H b w) (q : Q (.bl (!decide (v = w))) H) : rNeD K (.ref a) (.ref b) H Q := by
  obtain ⟨ps, s1, p1⟩ := h1
  obtain ⟨qs, s2, p2⟩ := h2
  refine ⟨_, _, .tup s1 (dv_all p1), .tup s2 (dv_all p2), shaped_tuple (dv_can v) (Nat.le_trans (dv_depth v) (by decide)), shaped_tuple (dv_can w) (Nat.le_trans (dv_depth w) (by decide)), ?_⟩
  rw [show PyData.eqv (.tuple (Dv v)) (.tuple (Dv w)) = PyData.eqvAll (Dv v) (Dv w) from rfl, dv_eqv]
  exact q
theorem e_tFld {K : PySem.W.Frag} {ta : TE} {f : Str} {σ : L2.St} {H : Hp} {Q : VK} (q : ta σ H fun x H1 => ∃ a C dx fs v, x = .ref a ∧ H1 a = some (.ins C dx fs) ∧ Cls K C ∧ NoAttr K C f ∧ fs.lookup f = some v ∧ Q v H1) : tFld K ta f σ H Q := q
theorem e_sFld {K : PySem.W.Frag} {ta tv : TE} {f : Str} {D : Ends} {σ : L2.St} {H : Hp} (q : tv σ H fun y H1 => ta σ H1 fun x H2 => ∃ a C dx fs, x = .ref a ∧ H2 a = some (.ins C dx fs) ∧ Cls K C ∧ NoAttr K C f ∧ fs.length < 1000 ∧ D.nx σ (upd H2 a (.ins C dx (putF f y fs)))) : sFld K ta tv f D σ H := q
theorem e_maxF {K : PySem.W.Frag} {sp : Sp} {ta : TA} {σ : L2.St} {H : Hp} {Q : VK} (q : ta σ H fun vs H1 => rMaxF K sp vs H1 Q) : tMaxF K sp ta σ H Q := q
theorem e_js {t : TE} {ts : List TE} {acc : Str} {σ : L2.St} {H : Hp} {Q : Str → Hp → Prop} (q : t σ H fun x H1 => ∃ y : Str, x = .str y ∧ (acc ++ y).length ≤ sizeLine ∧ tJs ts (acc ++ y) σ H1 Q) : tJs (t :: ts) acc σ H Q := q
theorem e_js0 {acc : Str} {σ : L2.St} {H : Hp} {Q : Str → Hp → Prop} (q : Q acc H) : tJs [] acc σ H Q := q
theorem e_fmt {te : TE} {σ : L2.St} {H : Hp} {Q : VK} (q : te σ H fun x H1 => (∃ y : Str, x = .str y ∧ y.length ≤ sizeLine ∧ Q (.str y) H1) ∨ ∃ i : Int, x = .int i ∧ i.natAbs.log2 < 1920 ∧ Q (.str (toString i)) H1) : tFmt te σ H Q := q
mutual
theorem dp_same {K : PySem.W.Frag} {H H' : Hp} (e : Same H H') : ∀ {v : V} {d : PyData}, Dp K H v d → Dp K H' v d
  | _, _, .non => .non
  | _, _, .bl b => .bl b
  | _, _, .int i => .int i
  | _, _, .str x => .str x
  | _, _, .lst h a => .lst (e.seq h) (dpa_same e a)
  | _, _, .tup h a => .tup (same_tup e h) (dpa_same e a)
theorem dpa_same {K : PySem.W.Frag} {H H' : Hp} (e : Same H H') : ∀ {v : List V} {d : List PyData}, DpAll K H v d → DpAll K H' v d
  | _, _, .nil => .nil
  | _, _, .cons a b => .cons (dp_same e a) (dpa_same e b)
end
/-! entries -/
abbrev cEnt (K : PySem.W.Frag) : Addr := He.ga K "Entry"
structure ET (K : PySem.W.Frag) : Prop where
  cl : Cls K (cEnt K)
  n1 : NoAttr K (cEnt K) "name"
  n2 : NoAttr K (cEnt K) "vector"
  n3 : NoAttr K (cEnt K) "height"
  n4 : NoAttr K (cEnt K) "maker"
  n5 : NoAttr K (cEnt K) "deleted"
  n6 : NoAttr K (cEnt K) "time"
  n7 : NoAttr K (cEnt K) "blocks"
structure En where
  nm : Str
  f : Nat → Int
  ht : Int
  mr : Int × Int
  dl : Bool
  tm : Int
  bl : List Int
def fs7 (n v h m d t b : V) : List (Str × V) := putF "blocks" b (putF "time" t (putF "deleted" d (putF "maker" m (putF "height" h (putF "vector" v (putF "name" n []))))))
def VecB (p : Bool) (K : PySem.W.Frag) (H : Hp) (v : Addr) (w : Vc) : Prop := Vec K H v w ∧ (p = true → PVec K H v w)
theorem VecB.same {p : Bool} {K : PySem.W.Frag} {H H' : Hp} {v : Addr} {w : Vc} (h : VecB p K H v w) (e : Same H H') : VecB p K H' v w := ⟨h.1.same e, fun z => (h.2 z).same e⟩
theorem VecB.of {p : Bool} {K : PySem.W.Frag} {H : Hp} {v : Addr} {w : Vc} (h : PVec K H v w) : VecB p K H v w := ⟨h.vec, fun _ => h⟩
def Ent (K : PySem.W.Frag) (H : Hp) (p : Bool) (a : Addr) (e : En) : Prop := ∃ (dx v m b : Addr) (fs : List (Str × V)), H a = some (.ins (cEnt K) dx fs) ∧
  (fs.lookup ("name" : Str) = some (.str e.nm) ∧ fs.lookup ("vector" : Str) = some (.ref v) ∧ fs.lookup ("height" : Str) = some (.int e.ht) ∧ fs.lookup ("maker" : Str) = some (.ref m) ∧ fs.lookup ("deleted" : Str) = some (.bl e.dl) ∧ fs.lookup ("time" : Str) = some (.int e.tm) ∧ fs.lookup ("blocks" : Str) = some (.ref b)) ∧
  VecB p K H v (made e.f) ∧ SqT K H m [.int e.mr.1, .int e.mr.2] ∧ SqT K H b (e.bl.map V.int)
theorem Ent.same {K : PySem.W.Frag} {H H' : Hp} {p : Bool} {a : Addr} {e : En} (h : Ent K H p a e) (s : Same H H') : Ent K H' p a e := by
  obtain ⟨dx, v, m, b, fs, h1, h2, h3, h4, h5⟩ := h
  exact ⟨dx, v, m, b, fs, s _ _ h1, h2, h3.same s, same_tup s h4, same_tup s h5⟩
theorem Ent.weak {K : PySem.W.Frag} {H : Hp} {p : Bool} {a : Addr} {e : En} (h : Ent K H p a e) : Ent K H false a e := by
  obtain ⟨dx, v, m, b, fs, h1, h2, h3, h4, h5⟩ := h
  exact ⟨dx, v, m, b, fs, h1, h2, ⟨h3.1, fun z => nomatch z⟩, h4, h5⟩
theorem sq_updE {K : PySem.W.Frag} {H : Hp} {p E : Addr} {xs l : List V} {o : HO} (h : SqT K H p xs) (e : H E = some (.lst l)) : SqT K (upd H E o) p xs := by
  rcases h with (h | ⟨c9, h⟩) | h
  · exact .inl (.inl (by rw [upd_ne (fun z => by rw [z, e] at h; cases h)]; exact h))
  · exact .inl (.inr ⟨c9, by rw [upd_ne (fun z => by rw [z, e] at h; cases h)]; exact h⟩)
  · exact .inr h
theorem pl_updE {H : Hp} {p E : Addr} {xs l : List V} {o : HO} (h : PlT H p xs) (e : H E = some (.lst l)) : PlT (upd H E o) p xs := by
  obtain ⟨c9, hd, h⟩ := h
  exact ⟨c9, hd, by rw [upd_ne (fun z => by rw [z, e] at h; cases h)]; exact h⟩
theorem prs_updE {K : PySem.W.Frag} {H : Hp} {E : Addr} {l : List V} {o : HO} {ps : List Addr} {v : Vc} (h : Prs K H ps v) (e : H E = some (.lst l)) : Prs K (upd H E o) ps v := paired_imp (fun _ _ q => sq_updE q e) h
theorem Ent.updE {K : PySem.W.Frag} {H : Hp} {p : Bool} {a E : Addr} {e : En} {l : List V} {o : HO} (h : Ent K H p a e) (he : H E = some (.lst l)) : Ent K (upd H E o) p a e := by
  obtain ⟨dx, v, m, b, fs, h1, h2, ⟨⟨ps, q1, q2⟩, h3⟩, h4, h5⟩ := h
  refine ⟨dx, v, m, b, fs, by rw [upd_ne (fun z => by rw [z, he] at h1; cases h1)]; exact h1, h2, ⟨⟨ps, sq_updE q1 he, prs_updE q2 he⟩, fun z => ?_⟩, sq_updE h4 he, sq_updE h5 he⟩
  obtain ⟨qs, r1, r2⟩ := h3 z
  exact ⟨qs, pl_updE r1 he, prs_updE r2 he⟩
section
variable {K : PySem.W.Frag} {H : Hp} {p : Bool} {a : Addr} {e : En} {P : V → Prop}
theorem f_name (t : ET K) (h : Ent K H p a e) (q : P (.str e.nm)) : ∃ a' C dx fs v, V.ref a = .ref a' ∧ H a' = some (.ins C dx fs) ∧ Cls K C ∧ NoAttr K C "name" ∧ fs.lookup ("name" : Str) = some v ∧ P v := by
  obtain ⟨dx, v, m, b, fs, h1, h2, h3, h4, h5⟩ := h
  exact ⟨a, _, dx, fs, _, rfl, h1, t.cl, t.n1, h2.1, q⟩
theorem f_vector (t : ET K) (h : Ent K H p a e) (q : ∀ v, VecB p K H v (made e.f) → P (.ref v)) : ∃ a' C dx fs v, V.ref a = .ref a' ∧ H a' = some (.ins C dx fs) ∧ Cls K C ∧ NoAttr K C "vector" ∧ fs.lookup ("vector" : Str) = some v ∧ P v := by
  obtain ⟨dx, v, m, b, fs, h1, h2, h3, h4, h5⟩ := h
  exact ⟨a, _, dx, fs, _, rfl, h1, t.cl, t.n2, h2.2.1, q v h3⟩
theorem f_height (t : ET K) (h : Ent K H p a e) (q : P (.int e.ht)) : ∃ a' C dx fs v, V.ref a = .ref a' ∧ H a' = some (.ins C dx fs) ∧ Cls K C ∧ NoAttr K C "height" ∧ fs.lookup ("height" : Str) = some v ∧ P v := by
  obtain ⟨dx, v, m, b, fs, h1, h2, h3, h4, h5⟩ := h
  exact ⟨a, _, dx, fs, _, rfl, h1, t.cl, t.n3, h2.2.2.1, q⟩
theorem f_maker (t : ET K) (h : Ent K H p a e) (q : ∀ m, SqT K H m [.int e.mr.1, .int e.mr.2] → P (.ref m)) : ∃ a' C dx fs v, V.ref a = .ref a' ∧ H a' = some (.ins C dx fs) ∧ Cls K C ∧ NoAttr K C "maker" ∧ fs.lookup ("maker" : Str) = some v ∧ P v := by
  obtain ⟨dx, v, m, b, fs, h1, h2, h3, h4, h5⟩ := h
  exact ⟨a, _, dx, fs, _, rfl, h1, t.cl, t.n4, h2.2.2.2.1, q m h4⟩
theorem f_deleted (t : ET K) (h : Ent K H p a e) (q : P (.bl e.dl)) : ∃ a' C dx fs v, V.ref a = .ref a' ∧ H a' = some (.ins C dx fs) ∧ Cls K C ∧ NoAttr K C "deleted" ∧ fs.lookup ("deleted" : Str) = some v ∧ P v := by
  obtain ⟨dx, v, m, b, fs, h1, h2, h3, h4, h5⟩ := h
  exact ⟨a, _, dx, fs, _, rfl, h1, t.cl, t.n5, h2.2.2.2.2.1, q⟩
theorem f_time (t : ET K) (h : Ent K H p a e) (q : P (.int e.tm)) : ∃ a' C dx fs v, V.ref a = .ref a' ∧ H a' = some (.ins C dx fs) ∧ Cls K C ∧ NoAttr K C "time" ∧ fs.lookup ("time" : Str) = some v ∧ P v := by
  obtain ⟨dx, v, m, b, fs, h1, h2, h3, h4, h5⟩ := h
  exact ⟨a, _, dx, fs, _, rfl, h1, t.cl, t.n6, h2.2.2.2.2.2.1, q⟩
theorem f_blocks (t : ET K) (h : Ent K H p a e) (q : ∀ b, SqT K H b (e.bl.map V.int) → P (.ref b)) : ∃ a' C dx fs v, V.ref a = .ref a' ∧ H a' = some (.ins C dx fs) ∧ Cls K C ∧ NoAttr K C "blocks" ∧ fs.lookup ("blocks" : Str) = some v ∧ P v := by
  obtain ⟨dx, v, m, b, fs, h1, h2, h3, h4, h5⟩ := h
  exact ⟨a, _, dx, fs, _, rfl, h1, t.cl, t.n7, h2.2.2.2.2.2.2, q b h5⟩
end
theorem fs7_ok (n v h m d t b : V) : (fs7 n v h m d t b).lookup ("name" : Str) = some n ∧ (fs7 n v h m d t b).lookup ("vector" : Str) = some v ∧ (fs7 n v h m d t b).lookup ("height" : Str) = some h ∧ (fs7 n v h m d t b).lookup ("maker" : Str) = some m ∧
    (fs7 n v h m d t b).lookup ("deleted" : Str) = some d ∧ (fs7 n v h m d t b).lookup ("time" : Str) = some t ∧ (fs7 n v h m d t b).lookup ("blocks" : Str) = some b := by
  unfold fs7
  refine ⟨?_, ?_, ?_, ?_, ?_, ?_, ?_⟩ <;> (repeat (rw [lookup_putF]; first | rw [if_pos rfl] | rw [if_neg (by decide)]))
/-- a new entry -/
theorem ent_made {K : PySem.W.Frag} {H : Hp} {p : Bool} {a v m b dx : Addr} (e : En) (h : H a = some (.ins (cEnt K) dx (fs7 (.str e.nm) (.ref v) (.int e.ht) (.ref m) (.bl e.dl) (.int e.tm) (.ref b)))) (hv : VecB p K H v (made e.f)) (hm : SqT K H m [.int e.mr.1, .int e.mr.2]) (hb : SqT K H b (e.bl.map V.int)) : Ent K H p a e :=
  ⟨dx, v, m, b, _, h, fs7_ok .., hv, hm, hb⟩
def sp_Entry___init__ (K : PySem.W.Frag) : Sp := fun vs H Q _ => ∃ x n v h m d t b, vs = [x, n, v, h, m, d, t, b] ∧ ∃ a dx, x = .ref a ∧ H a = some (.ins (cEnt K) dx []) ∧ Q .non (upd H a (.ins (cEnt K) dx (fs7 n v h m d t b)))
theorem e_mkE {K : PySem.W.Frag} {H1 : Hp} {P : Addr → Hp → Prop} {n v h m d t b : V} (q : ∀ a H' dx, H1 a = none → Same H1 H' → H' a = some (.ins (cEnt K) dx (fs7 n v h m d t b)) → P a H') :
    ∀ x dx, H1 x = none → H1 dx = none → dx ≠ x → sp_Entry___init__ K (.ref x :: ([n, v, h, m, d, t, b] ++ [])) (upd (upd H1 dx (.own x)) x (.ins (cEnt K) dx [])) (fun u H2 => u = .non ∧ P x H2) E0 := by
  intro x dx hx hdx ne
  refine ⟨_, _, _, _, _, _, _, _, rfl, x, dx, rfl, upd_same, rfl, ?_⟩
  rw [upd_upd]
  exact q x _ dx hx (Same.mut (same_new hdx) hx) upd_same
def enEq (e g : En) : Bool := decide (e.nm = g.nm) && (decide (made e.f = made g.f) && (decide (e.ht = g.ht) && (decide (e.mr = g.mr) && ((e.dl == g.dl) && (decide (e.tm = g.tm) && decide (e.bl = g.bl))))))
def sp_Entry___eq__ (K : PySem.W.Frag) : Sp := sp2 fun x y H Q => ∃ (a : Addr) (p : Bool) (e : En), x = .ref a ∧ Ent K H p a e ∧
  ((∃ (b : Addr) (p2 : Bool) (g : En), y = .ref b ∧ Ent K H p2 b g ∧ Q (.bl (enEq e g)) H) ∨ (∃ (t : Addr) (ys : List V), y = .ref t ∧ H t = some (.lst ys) ∧ Q (.bl false) H))
/-- two entries compared -/
theorem e_eqEE {K : PySem.W.Frag} {H : Hp} {Q : VK} {a b : Addr} {p p2 : Bool} {e g : En} (h1 : Ent K H p a e) (h2 : Ent K H p2 b g) (q : Q (.bl (enEq e g)) H) : rEqOL K (cEnt K) (sp_Entry___eq__ K) E0 (.ref a) (.ref b) H Q := by
  obtain ⟨dx, v, m, bb, fs, k1, _⟩ := id h1
  obtain ⟨dy, v2, m2, bb2, gs, k2, _⟩ := id h2
  exact ⟨a, b, dx, fs, rfl, rfl, k1, .inl ⟨dy, gs, k2⟩, _, _, rfl, a, p, e, rfl, h1, .inl ⟨b, p2, g, rfl, h2, _, rfl, q⟩⟩
theorem enEq_self (e : En) : enEq e e = true := by
  unfold enEq
  simp
/-! keys -/
def KeyT (K : PySem.W.Frag) (H : Hp) (r : Addr) (e : En) : Prop := ∃ c, SqT K H r [.int e.ht, .int e.tm, .int (if e.dl = true then 0 else 1), .int (-e.mr.1), .int (-e.mr.2), .ref c] ∧ SqT K H c ((row9 e.f).map V.int)
def kdE (e : En) : PyData := .tuple [.int e.ht, .int e.tm, .int (if e.dl = true then 0 else 1), .int (-e.mr.1), .int (-e.mr.2), .tuple (Di (row9 e.f))]
theorem key_dp {K : PySem.W.Frag} {H : Hp} {r : Addr} {e : En} (h : KeyT K H r e) : Dp K H (.ref r) (kdE e) := by
  obtain ⟨c, h1, h2⟩ := h
  exact .tup h1 (.cons (.int _) (.cons (.int _) (.cons (.int _) (.cons (.int _) (.cons (.int _) (.cons (dp_ti h2) .nil))))))
theorem KeyT.same {K : PySem.W.Frag} {H H' : Hp} {r : Addr} {e : En} (h : KeyT K H r e) (s : Same H H') : KeyT K H' r e := by
  obtain ⟨c, h1, h2⟩ := h
  exact ⟨c, same_tup s h1, same_tup s h2⟩
theorem kdE_plain (e : En) : (kdE e).plain = true := by simp [kdE, PyData.plain, PyData.plainAll, plain_ints]
theorem kdE_depth (e : En) : (kdE e).depth ≤ 60 := by
  show PyData.depthAll [.int e.ht, .int e.tm, .int (if e.dl = true then 0 else 1), .int (-e.mr.1), .int (-e.mr.2), .tuple (Di (row9 e.f))] + 1 ≤ 60
  simp [PyData.depthAll, PyData.depth, Vf.depthAll_ints]
theorem kdE_self (e : En) : PyData.eqv (kdE e) (kdE e) = true := by simp [kdE, PyData.eqv, PyData.eqvAll, eqvAll_ints]
theorem kdE_alike (e g : En) : PySem.W.alike (kdE e) (kdE g) = true := by simp [kdE, PySem.W.alike, PySem.W.alikeAll, alikeAll_ints]
def spKey (K : PySem.W.Frag) : Sp := sp1 fun x H Q => ∃ (a : Addr) (p : Bool) (e : En), x = .ref a ∧ Ent K H p a e ∧ (∀ k, 0 ≤ e.f k) ∧ ∀ (r : Addr) (H' : Hp), Same H H' → KeyT K H' r e → Q (.ref r) H'
abbrev sp_key_of := spKey
def alk (e g : En) : Bool := (e.dl == g.dl) && decide (e.bl = g.bl)
def sp_alike (K : PySem.W.Frag) : Sp := sp2 fun x y H Q => ∃ (a b : Addr) (p p2 : Bool) (e g : En), x = .ref a ∧ y = .ref b ∧ Ent K H p a e ∧ Ent K H p2 b g ∧ Q (.bl (alk e g)) H
abbrev Ents (K : PySem.W.Frag) (H : Hp) (p : Bool) (ps : List Addr) (es : List En) : Prop := Paired (fun a e => Ent K H p a e) ps es
theorem ents_same {K : PySem.W.Frag} {H H' : Hp} {p : Bool} {ps : List Addr} {es : List En} (s : Same H H') (h : Ents K H p ps es) : Ents K H' p ps es := paired_imp (fun _ _ q => q.same s) h
def dE : En := ⟨"", fun _ => 0, 0, (0, 0), false, 0, []⟩
def kdL (es : List En) (i : Nat) : PyData := kdE (es.getD i dE)
def enB (es : List En) : En := es.getD (mxI (kdL es) es.length) dE
def wf (es : List En) (b : En) (f : Nat → Int) : Nat → Int := es.foldl (fun f e => if alk e b = true then fun k => mx (f k) (e.f k) else f) f
def winE (es : List En) : En := { enB es with f := wf es (enB es) (enB es).f }
def spWin (K : PySem.W.Frag) : Sp := sp1 fun x H Q => ∃ (a : Addr) (ps : List Addr) (es : List En), x = .ref a ∧ SqL K H a (ps.map V.ref) ∧ Ents K H true ps es ∧ (∀ e ∈ es, ∀ k, 0 ≤ e.f k) ∧ 0 < es.length ∧ es.length ≤ 100 ∧
  ∀ (r : Addr) (H' : Hp), Same H H' → Ent K H' true r (winE es) → Q (.ref r) H'
abbrev sp_winner := spWin
abbrev sp_law_winner := spWin
/-! the mathematics of winners -/
theorem fold_up (k : Nat) : ∀ (l : List En) (x y : Int), (∃ e ∈ l, x ≤ e.f k) → y ≤ x → l.foldl (fun x e => mx x (e.f k)) x = l.foldl (fun x e => mx x (e.f k)) y
  | [], x, y, h, _ => by obtain ⟨e, he, _⟩ := h; cases he
  | e :: r, x, y, h, hy => by
    show r.foldl _ (mx x (e.f k)) = r.foldl _ (mx y (e.f k))
    by_cases hx : x ≤ e.f k
    · have e1 : mx x (e.f k) = e.f k := by unfold mx; split <;> omega
      have e2 : mx y (e.f k) = e.f k := by unfold mx; split <;> omega
      rw [e1, e2]
    · have e1 : mx x (e.f k) = x := by unfold mx; split <;> omega
      have e2 : mx y (e.f k) ≤ x := by unfold mx; split <;> omega
      rw [e1]
      refine fold_up k r x _ ?_ e2
      obtain ⟨g, hg, h⟩ := h
      rcases List.mem_cons.mp hg with rfl | hg
      · exact absurd h hx
      · exact ⟨g, hg, h⟩
theorem wf_at (b : En) (k : Nat) : ∀ (es : List En) (f : Nat → Int), wf es b f k = (es.filter fun e => alk e b).foldl (fun x e => mx x (e.f k)) (f k)
  | [], f => rfl
  | e :: r, f => by
    show wf r b (if alk e b = true then fun k => mx (f k) (e.f k) else f) k = _
    rw [wf_at b k r]
    by_cases h : alk e b = true
    · rw [if_pos h, List.filter_cons_of_pos (p := fun e => alk e b) h]; rfl
    · rw [if_neg h, List.filter_cons_of_neg (p := fun e => alk e b) h]
theorem alk_self (e : En) : alk e e = true := by unfold alk; simp
theorem wf_zero {es : List En} {b : En} (hb : b ∈ es) (hn : ∀ k, 0 ≤ b.f k) : wf es b b.f = wf es b fun _ => 0 := by
  funext k
  rw [wf_at, wf_at]
  exact fold_up k _ _ _ ⟨b, List.mem_filter.mpr ⟨hb, alk_self b⟩, Int.le_refl _⟩ (hn k)
theorem wf_nn {es : List En} {b : En} (he : ∀ e ∈ es, ∀ k, 0 ≤ e.f k) : ∀ {f : Nat → Int}, (∀ k, 0 ≤ f k) → ∀ k, 0 ≤ wf es b f k := by
  induction es with
  | nil => intro f hf; exact hf
  | cons e r ih =>
    intro f hf
    show ∀ k, 0 ≤ wf r b (if alk e b = true then fun k => mx (f k) (e.f k) else f) k
    refine ih (fun e he2 => he e (List.mem_cons_of_mem _ he2)) fun k => ?_
    have h1 := hf k
    have h2 := he e (List.mem_cons_self ..) k
    split
    · show 0 ≤ mx (f k) (e.f k)
      unfold mx
      split <;> omega
    · exact h1
theorem made_zero : made (fun _ => 0) = [] := by
  unfold made madeN
  rw [List.filter_eq_nil_iff.mpr fun k _ => by simp]
  rfl
theorem made_one {j : Nat} (hj : j < 9) {n : Int} (hn : 0 < n) : made (fun k => if k = j then n else 0) = [(((j : Nat) : Int) + 1, n)] := by
  have h : j = 0 ∨ j = 1 ∨ j = 2 ∨ j = 3 ∨ j = 4 ∨ j = 5 ∨ j = 6 ∨ j = 7 ∨ j = 8 := by omega
  unfold made madeN
  rcases h with h | h | h | h | h | h | h | h | h <;> subst h <;> simp [List.range, List.range.loop, hn]
theorem for_ents {K : PySem.W.Frag} {g : TG} {t : TS} {D : Ends} {σ : L2.St} {H H0 : Hp} {a : Addr} {ps : List Addr} {es : List En} {p : Bool} (hS : SqL K H0 a (ps.map V.ref)) (hP : Ents K H0 p ps es) (Pv : List En → L2.St → Hp → Prop) (h0 : Pv [] σ H) (hl : ∀ pre σ H, Pv pre σ H → Same H0 H)
    (hs : ∀ (pre : List En) (e : En) (post : List En) (q : Addr) σ H, es = pre ++ e :: post → Pv pre σ H → ps[pre.length]? = some q → Ent K H p q e → g (.ref q) σ H fun σ2 H2 => t { D with nx := Pv (pre ++ [e]), ct := Pv (pre ++ [e]), bk := D.nx } σ2 H2)
    (hd : ∀ σ H, Pv es σ H → D.nx σ H) : ForB (Itl K a) g t D σ H := by
  refine for_list (xs := ps.map V.ref) (fun i => Pv (es.take i)) (by simpa using h0) (fun i σ H _ q => (hl _ σ H q).seq hS) (fun i x σ H hx q => ?_) (fun σ H q => ?_)
  · rw [List.getElem?_map] at hx
    obtain ⟨r, hr, rfl⟩ := Option.map_eq_some_iff.mp hx
    obtain ⟨e, he, hE⟩ := paired_get hP i r hr
    have hi := (List.getElem?_eq_some_iff.mp he).1
    have e2 := (List.getElem?_eq_some_iff.mp he).2
    have e1 : es = es.take i ++ e :: es.drop (i + 1) := by rw [← e2, List.getElem_cons_drop, List.take_append_drop]
    have el : (es.take i).length = i := by rw [List.length_take]; omega
    rw [List.take_add_one, he]
    exact hs _ e _ r σ H e1 q (by rw [el]; exact hr) (hE.same (hl _ σ H q))
  · rw [List.length_map, paired_len hP, List.take_length] at q
    exact hd σ H q
theorem len_put {f : Str} {v : V} : ∀ {fs : List (Str × V)} {n : Nat}, fs.length ≤ n → (putF f v fs).length ≤ n + 1
  | [], n, h => by show 1 ≤ n + 1; omega
  | (g, x) :: r, n, h => by
    show (if g = f then (g, v) :: r else (g, x) :: putF f v r).length ≤ n + 1
    rw [List.length_cons] at h
    by_cases e : g = f
    · rw [if_pos e, List.length_cons]; omega
    · rw [if_neg e, List.length_cons]
      have := len_put (f := f) (v := v) (fs := r) (n := n - 1) (by omega)
      omega
theorem lt_put {fs : List (Str × V)} (h : fs.length ≤ 8) : fs.length < 1000 := Nat.lt_of_le_of_lt h (by decide)
theorem dv_plain : ∀ v : Vc, PyData.plainAll (Dv v) = true
  | [] => by simp [PyData.plainAll]
  | c :: v => by
    show PyData.plainAll (.tuple (Di [c.1, c.2]) :: Dv v) = true
    rw [PyData.plainAll, dv_plain v, PyData.plain, plain_ints]
    rfl
theorem dp_vec {K : PySem.W.Frag} {H : Hp} {a : Addr} {v : Vc} (h : Vec K H a v) : Dp K H (.ref a) (.tuple (Dv v)) := by
  obtain ⟨ps, s1, p1⟩ := h
  exact .tup s1 (dv_all p1)
theorem e_eqPVV {K : PySem.W.Frag} {H : Hp} {Q : VK} {a b : Addr} {v w : Vc} (h1 : Vec K H a v) (h2 : Vec K H b w) (q : Q (.bl (decide (v = w))) H) : rEqP K (.ref a) (.ref b) H Q :=
  e_eqPV (dp_vec h1) (dp_vec h2) (by simp [PyData.plain, dv_plain]) (by simp [PyData.plain, dv_plain]) (by
    show PyData.depthAll (Dv v) + 1 ≤ 60
    have := dv_depth v
    omega) (by show PyData.eqvAll (Dv v) (Dv w) = _; exact dv_eqv v w) q
theorem max_made2 {f g : Nat → Int} (hf : ∀ k, 0 ≤ f k) {k : Nat} (hk : k < 9) : told (fun c x => mx x c) (made g) (((k : Nat) : Int) + 1) (f k) = mx (f k) (g k) := by
  rw [told_madeN]
  have := hf k
  by_cases h : 0 < g k
  · rw [if_pos ⟨hk, h⟩]
  · rw [if_neg (by omega)]
    unfold mx
    rw [if_neg (by omega)]
theorem getD_of {es : List En} {i : Nat} {e : En} (h : es[i]? = some e) : es.getD i dE = e := by rw [List.getD_eq_getElem?_getD, h]; rfl
theorem enEq_ne {e g : En} (h : ¬ (e.nm = g.nm ∧ made e.f = made g.f ∧ e.ht = g.ht ∧ e.mr = g.mr ∧ e.dl = g.dl ∧ e.tm = g.tm ∧ e.bl = g.bl)) : enEq e g = false := by
  cases z : enEq e g with
  | false => rfl
  | true =>
    refine absurd ?_ h
    unfold enEq at z
    simpa using z
theorem vec_updE {K : PySem.W.Frag} {H : Hp} {a E : Addr} {v : Vc} {l : List V} {o : HO} (h : Vec K H a v) (e : H E = some (.lst l)) : Vec K (upd H E o) a v := by
  obtain ⟨ps, h1, h2⟩ := h
  exact ⟨ps, sq_updE h1 e, prs_updE h2 e⟩
/-! ### what stands but at some places -/
def Fr (S : List Addr) (H H' : Hp) : Prop := ∀ x o, x ∉ S → H x = some o → H' x = some o
theorem Fr.of {S : List Addr} {H H' : Hp} (h : Same H H') : Fr S H H' := fun x o _ e => h x o e
theorem Fr.refl (S : List Addr) (H : Hp) : Fr S H H := fun _ _ _ e => e
theorem Fr.trans {S : List Addr} {H H1 H2 : Hp} (h : Fr S H H1) (g : Fr S H1 H2) : Fr S H H2 := fun x o n e => g x o n (h x o n e)
theorem Fr.same {S : List Addr} {H H1 H2 : Hp} (h : Fr S H H1) (g : Same H1 H2) : Fr S H H2 := fun x o n e => g x o (h x o n e)
theorem Fr.put {S : List Addr} {H H1 : Hp} {a : Addr} {o : HO} (h : Fr S H H1) (m : a ∈ S) : Fr S H (upd H1 a o) := fun x o' n e => by
  rw [upd_ne fun z => n (by rw [z]; exact m)]
  exact h x o' n e
theorem Fr.mono {S S' : List Addr} {H H1 : Hp} (h : Fr S H H1) (m : ∀ x ∈ S, x ∈ S') : Fr S' H H1 := fun x o n e => h x o (fun z => n (m x z)) e
theorem Fr.mut {S : List Addr} {H H1 : Hp} {a : Addr} {o : HO} (h : Fr S H H1) (m : H a = none) : Fr S H (upd H1 a o) := fun x o' n e => by
  rw [upd_ne (ne_of_none e m)]
  exact h x o' n e
theorem Fr.put2 {S : List Addr} {H H1 : Hp} {a : Addr} {o : HO} (h : Fr S H H1) (m : a ∈ S ∨ H a = none) : Fr S H (upd H1 a o) := m.elim (fun m => h.put m) fun m => h.mut m
/-! ### the heap without some places -/
def hid (D : List Addr) (H : Hp) : Hp := fun b => if b ∈ D then none else H b
theorem hid_at {D : List Addr} {H : Hp} {b : Addr} (n : b ∉ D) : hid D H b = H b := by unfold hid; rw [if_neg n]
theorem hid_in {D : List Addr} {H : Hp} {b : Addr} (m : b ∈ D) : hid D H b = none := by unfold hid; rw [if_pos m]
theorem hid_some {D : List Addr} {H : Hp} {b : Addr} {o : HO} (h : hid D H b = some o) : b ∉ D ∧ H b = some o := by
  by_cases m : b ∈ D
  · rw [hid_in m] at h; cases h
  · rw [hid_at m] at h; exact ⟨m, h⟩
theorem hid_upd {D : List Addr} {H : Hp} {p : Addr} {o : HO} (n : p ∉ D) : hid D (upd H p o) = upd (hid D H) p o := by
  funext b
  by_cases e : b = p
  · rw [e, hid_at n, upd_same, upd_same]
  · rw [upd_ne e]
    by_cases m : b ∈ D
    · rw [hid_in m, hid_in m]
    · rw [hid_at m, hid_at m, upd_ne e]
theorem hid_upd_in {D : List Addr} {H : Hp} {p : Addr} {o : HO} (m : p ∈ D) : hid D (upd H p o) = hid D H := by
  funext b
  by_cases m2 : b ∈ D
  · rw [hid_in m2, hid_in m2]
  · rw [hid_at m2, hid_at m2, upd_ne fun e => m2 (by rw [e]; exact m)]
theorem hid_fr {D : List Addr} {H H' : Hp} (f : Fr D H H') : Same (hid D H) (hid D H') := fun b o h => by
  obtain ⟨n, e⟩ := hid_some h
  rw [hid_at n]
  exact f b o n e
theorem hid_same {D : List Addr} {H H' : Hp} (s : Same H H') : Same (hid D H) (hid D H') := hid_fr (Fr.of s)
theorem hid_sub {D : List Addr} {H : Hp} : Same (hid D H) H := fun b o h => (hid_some h).2
theorem hid_nil {H : Hp} : hid [] H = H := by funext b; exact hid_at (by simp)
theorem hid_none {D : List Addr} {H : Hp} {b : Addr} (h : H b = none) : hid D H b = none := by
  by_cases m : b ∈ D
  · exact hid_in m
  · rw [hid_at m]; exact h
theorem hid_new {H : Hp} {D p : Addr} {o o' : HO} (hD : H D = some o') (hp : H p = none) : hid [D] (upd H p o) = upd (hid [D] H) p o := hid_upd (by
  intro m
  rw [List.mem_singleton.mp m, hD] at hp
  cases hp)
/-- a list made by a comprehension whose elements stand in a relation to their places -/
theorem lc_rel {J : It} {n : Nat} {G : Hp → Prop} {Y : Nat → Hp → V → Hp → Prop} (w : Walk J n G Y) {g : TG} {te : TE} {vs : List Nat} {σ : L2.St} {Da : Addr} {H0 : Hp} {Q : VK} (hD : H0 Da = none) (hn : n ≤ 1000000)
    (hG : ∀ H, Same H0 H → G H) (R : Nat → V → Hp → Prop) (mono : ∀ i v H H', R i v H → Same H H' → R i v H')
    (hs : ∀ (i : Nat) (x : V) (H H' : Hp) (C : VK) (E : Hp → Prop) (acc : List V), i < n → Same H0 H → H Da = some (.lst acc) → Y i H x H' → (∀ v H3, Same H H3 → R i v (hid [Da] H3) → C v H3) →
      g x (wipe σ vs) H' fun σ2 H2 => wipe σ2 vs = wipe σ vs ∧ tYes σ2 H2 fun b H3 => if b = true then te σ2 H3 C else E H3)
    (hd : ∀ (H : Hp) (us : List V), Same H0 H → H Da = some (.lst us) → us.length = n → (∀ i v, us[i]? = some v → R i v (hid [Da] H)) → Q (.ref Da) H) : LcB J g tYes te vs σ Da H0 Q := by
  refine lc_it w (fun i H => Same H0 H ∧ ∃ us, H Da = some (.lst us) ∧ us.length = i ∧ ∀ j v, us[j]? = some v → R j v (hid [Da] H)) ⟨same_new hD, [], upd_same, rfl, fun j v h => by simp at h⟩ (fun i H _ p => hG H p.1) (fun i x H H' hi p y => ?_) (fun H p => ?_)
  · obtain ⟨s1, us, e1, l1, r1⟩ := p
    refine hs i x H H' _ _ _ hi s1 e1 y fun v H3 s3 r3 => ?_
    refine ⟨us, s3 _ _ e1, Nat.lt_of_le_of_lt (by omega : _ ≤ 1000000) (by decide), Same.mut (s1.trans s3) hD, us ++ [v], upd_same, by simp [l1], fun j u hj => ?_⟩
    rw [hid_upd_in (List.mem_singleton.mpr rfl)]
    by_cases hl : j < us.length
    · rw [List.getElem?_append_left hl] at hj
      exact mono _ _ _ _ (r1 j u hj) (hid_same s3)
    · rw [List.getElem?_append_right (by omega)] at hj
      have hj2 := (List.getElem?_eq_some_iff.mp hj).1
      have z : j = i := by simp at hj2; omega
      subst z
      rw [l1, Nat.sub_self] at hj
      cases hj
      exact r3
  · obtain ⟨s1, us, e1, l1, r1⟩ := p
    exact hd H us s1 e1 l1 r1
theorem kp_fr {st : Addr} {H H' : Hp} (k : Kp st H H') : Fr [st] H H' := fun x o n e => k x o (fun z => n (List.mem_singleton.mpr z)) e
theorem kp_same {st : Addr} {H H' : Hp} (k : Kp st H H') : Same (hid [st] H) (hid [st] H') := hid_fr (kp_fr k)
theorem hid_le {D E : List Addr} {H : Hp} (h : ∀ x ∈ D, x ∈ E) : Same (hid E H) (hid D H) := fun b o e => by
  obtain ⟨n, e⟩ := hid_some e
  rw [hid_at fun m => n (h b m)]
  exact e
theorem prd_mk {α β : Type} {F : α → β → Prop} : ∀ {l : List α} {m : List β}, l.length = m.length → (∀ (i : Nat) (a : α) (b : β), l[i]? = some a → m[i]? = some b → F a b) → Paired F l m
  | [], [], _, _ => .nil
  | a :: l, b :: m, e, h => .cons (h 0 a b rfl rfl) (prd_mk (by simpa using e) fun i x y h1 h2 => h (i + 1) x y h1 h2)
def NT (H : Hp) (d : Addr) : Prop := (∀ xs, H d ≠ some (.tup xs)) ∧ ∀ c xs, H d ≠ some (.frz c (.tup xs))
theorem sqT_hid {K : PySem.W.Frag} {D : List Addr} {H : Hp} {p : Addr} {xs : List V} (h : SqT K H p xs) (n : ∀ d ∈ D, NT H d) : SqT K (hid D H) p xs := by
  rcases h with (h | ⟨c9, h⟩) | h
  · exact .inl (.inl (by rw [hid_at fun m => (n p m).1 _ h]; exact h))
  · exact .inl (.inr ⟨c9, by rw [hid_at fun m => (n p m).2 _ _ h]; exact h⟩)
  · exact .inr h
theorem vec_hid {K : PySem.W.Frag} {D : List Addr} {H : Hp} {a : Addr} {v : Vc} (h : Vec K H a v) (n : ∀ d ∈ D, NT H d) : Vec K (hid D H) a v := by
  obtain ⟨ps, h1, h2⟩ := h
  exact ⟨ps, sqT_hid h1 n, paired_imp (fun _ _ q => sqT_hid q n) h2⟩
theorem nt_lst {H : Hp} {d : Addr} {xs : List V} (h : H d = some (.lst xs)) : NT H d := ⟨fun _ z => (by rw [h] at z; cases z), fun _ _ z => (by rw [h] at z; cases z)⟩
theorem e_cat {H : Hp} {Q : VK} {a b : Addr} {xs ys : List V} (h1 : H a = some (.lst xs)) (h2 : H b = some (.lst ys)) (hn : xs.length + ys.length ≤ 100000) (q : ∀ p, H p = none → Q (.ref p) (upd H p (.lst (xs ++ ys)))) : rCat (.ref a) (.ref b) H Q :=
  ⟨a, b, xs, ys, rfl, rfl, h1, h2, Nat.le_trans hn (by decide), q⟩
theorem e_slA {K : PySem.W.Frag} {H : Hp} {Q : VK} {p : Addr} {xs : List V} {lo hi : Option Int} (h : SqT K H p xs) (q : ∀ r H', Same H H' → SqT K H' r (cutV xs lo hi) → Q (.ref r) H') : rSlA K (.ref p) lo hi H Q := by
  refine ⟨p, xs, rfl, h, fun w => q p H (Same.refl H) ?_, fun _ r hr => q r _ (same_new hr) (SqT.of upd_same)⟩
  have e : cutV xs lo hi = xs := by
    unfold cutV
    rw [w.1, w.2, List.drop_zero, Nat.sub_zero, List.take_length]
  rw [e]; exact h
theorem cut_toV (xs : List V) (c : Nat) : cutV xs none (some (c : Int)) = xs.take c := by
  unfold cutV
  rw [HT.sIx_nat, show HT.sIx xs.length 0 none = 0 from rfl, List.drop_zero, Nat.sub_zero]
  by_cases h : c ≤ xs.length
  · rw [Nat.min_eq_left h]
  · rw [Nat.min_eq_right (by omega), List.take_of_length_le (Nat.le_refl _), List.take_of_length_le (by omega)]
theorem cut_fromV (xs : List V) (c : Nat) : cutV xs (some (c : Int)) none = xs.drop c := by
  unfold cutV
  rw [HT.sIx_nat, show HT.sIx xs.length xs.length none = xs.length from rfl]
  by_cases h : c ≤ xs.length
  · rw [Nat.min_eq_left h, List.take_of_length_le (by simp)]
  · rw [Nat.min_eq_right (by omega), List.drop_eq_nil_of_le (Nat.le_refl _), List.drop_eq_nil_of_le (by omega)]
    simp
theorem cut_last (xs : List V) : cutV xs none (some (-1)) = xs.dropLast := by
  unfold cutV
  have e : HT.sIx xs.length xs.length (some (-1)) = xs.length - 1 := by
    show (if (-1 : Int) < 0 then ((-1 : Int) + (xs.length : Int)).toNat else min (-1 : Int).toNat xs.length) = _
    rw [if_pos (by decide)]
    omega
  rw [e, HT.sIx_none, List.drop_zero, Nat.sub_zero, List.dropLast_eq_take]
/-- the state of the draws: the script's copy, a place, a number that is kept, a mixed number -/
structure Dw (K : PySem.W.Frag) (st sc : Addr) (ns : List Int) (H : Hp) : Prop where
  s : ∃ a b c : Int, 0 ≤ a ∧ 0 ≤ b ∧ (0 ≤ c ∧ c < 2147483647) ∧ H st = some (.lst [.ref sc, .int a, .int b, .int c])
  l : H sc = some (.lst (ns.map V.int))
  ne : sc ≠ st
  len : ns.length ≤ 63
theorem Dw.kp {K : PySem.W.Frag} {st sc : Addr} {ns : List Int} {H H' : Hp} (d : Dw K st sc ns H) (k : Kp st H H') (s : ∃ a b c : Int, 0 ≤ a ∧ 0 ≤ b ∧ (0 ≤ c ∧ c < 2147483647) ∧ H' st = some (.lst [.ref sc, .int a, .int b, .int c])) : Dw K st sc ns H' :=
  ⟨s, k _ _ d.ne d.l, d.ne, d.len⟩
theorem Dw.same {K : PySem.W.Frag} {st sc : Addr} {ns : List Int} {H H' : Hp} (d : Dw K st sc ns H) (k : Same H H') : Dw K st sc ns H' := by
  obtain ⟨a, b, c, h1, h2, hc, h3⟩ := d.s
  exact d.kp (Kp.of k) ⟨a, b, c, h1, h2, hc, k _ _ h3⟩
theorem Dw.free {K : PySem.W.Frag} {st sc p : Addr} {ns : List Int} {H : Hp} (d : Dw K st sc ns H) (h : H p = none) : p ≠ st := by
  obtain ⟨a, b, c, _, _, _, h3⟩ := d.s
  intro e
  rw [e, h3] at h
  cases h
theorem Dw.mut {K : PySem.W.Frag} {st sc p : Addr} {ns : List Int} {H0 H1 : Hp} {o : HO} (d0 : Dw K st sc ns H0) (d : Dw K st sc ns H1) (hp : H0 p = none) (k : Kp st H0 H1) : Dw K st sc ns (upd H1 p o) := by
  obtain ⟨a, b, c, h1, h2, hc, h3⟩ := d.s
  exact d0.kp (k.mut hp) ⟨a, b, c, h1, h2, hc, by rw [upd_ne (d0.free hp).symm]; exact h3⟩
theorem Dw.some {K : PySem.W.Frag} {st sc : Addr} {ns : List Int} {H : Hp} (d : Dw K st sc ns H) : ∃ o, H st = some o := by
  obtain ⟨a, b, c, h1, h2, hc, h3⟩ := d.s
  exact ⟨_, h3⟩
section
variable {K : PySem.W.Frag} {g : TG} {σ : L2.St} {te : TE} {vs : List Nat} {Q : VK} {Da st sc : Addr} {ns : List Int} {H0 : Hp}
/-- [e for k in range(..)], e with draws -/
theorem lc_dw {lo : Int} {n : Nat} (d0 : Dw K st sc ns H0) (hD : H0 Da = none) (hn : n ≤ 1000000) (Pe : V → Prop)
    (hs : ∀ (i : Nat) (H2 : Hp) (C : VK) (E : Hp → Prop), i < n → Kp st H0 H2 → Dw K st sc ns H2 → (∀ y H3, Kp st H2 H3 → Dw K st sc ns H3 → Pe y → C y H3) →
      g (.int (lo + i)) (wipe σ vs) H2 fun σ2 H2 => wipe σ2 vs = wipe σ vs ∧ tYes σ2 H2 fun b H3 => if b = true then te σ2 H3 C else E H3)
    (hd : ∀ (H : Hp) (xs : List V), Kp st H0 H → Dw K st sc ns H → H Da = some (.lst xs) → xs.length = n → (∀ x ∈ xs, Pe x) → Q (.ref Da) H) : LcB (Itr lo n) g tYes te vs σ Da H0 Q := by
  have nD := d0.free hD
  refine lc_rng (fun i H2 => Kp st H0 H2 ∧ Dw K st sc ns H2 ∧ ∃ xs : List V, H2 Da = some (.lst xs) ∧ xs.length = i ∧ ∀ x ∈ xs, Pe x) ⟨Kp.new hD, d0.same (same_new hD), [], upd_same, rfl, fun _ hy => by cases hy⟩ (fun i H2 hi p => ?_) (fun H2 p => ?_)
  · obtain ⟨k4, d4, xs, e4, l4, o4⟩ := p
    refine hs i H2 _ _ hi k4 d4 fun y H3 k5 d5 hy => ?_
    refine ⟨xs, k5 _ _ nD e4, Nat.lt_of_le_of_lt (Nat.le_of_lt (by omega : xs.length < 1000001)) (by decide), (k4.trans k5).mut hD, Dw.mut d0 d5 hD (k4.trans k5), xs ++ [y], upd_same, by simp [l4], fun z hz => ?_⟩
    rcases List.mem_append.mp hz with h | h
    · exact o4 z h
    · rw [List.mem_singleton.mp h]; exact hy
  · obtain ⟨k4, d4, xs, e4, l4, o4⟩ := p
    exact hd H2 xs k4 d4 e4 l4 o4
end
theorem ints_of {n : Nat} {P : Int → Prop} : ∀ {xs : List V}, (∀ x ∈ xs, ∃ i, x = .int i ∧ P i) → ∃ ks : List Int, xs = ks.map V.int ∧ ∀ k ∈ ks, P k
  | [], _ => ⟨[], rfl, fun _ h => by cases h⟩
  | x :: xs, h => by
    obtain ⟨i, rfl, hi⟩ := h x (List.mem_cons_self ..)
    obtain ⟨ks, rfl, hk⟩ := ints_of (n := n) (P := P) (xs := xs) fun y hy => h y (List.mem_cons_of_mem _ hy)
    refine ⟨i :: ks, rfl, fun k hk2 => ?_⟩
    rcases List.mem_cons.mp hk2 with rfl | h2
    · exact hi
    · exact hk k h2
def sp_law_draws (K : PySem.W.Frag) : Sp := sp1 fun a H Q => ∃ (sa : Addr) (ns : List Int), a = .ref sa ∧ SqL K H sa (ns.map V.int) ∧ ns.length ≤ 63 ∧ ∀ (st sc : Addr) (H' : Hp), H st = none → Same H H' → Dw K st sc ns H' → Q (.ref st) H'
def sp_law_draw (K : PySem.W.Frag) : Sp := sp2 fun a b H Q => ∃ (st sc : Addr) (ns : List Int) (n : Int), a = .ref st ∧ b = .int n ∧ Dw K st sc ns H ∧ 0 < n ∧ n < 2 ^ 60 ∧
  ∀ (d : Int) (H' : Hp), 0 ≤ d → d < n → Kp st H H' → Dw K st sc ns H' → Q (.int d) H'
/-! ### reasons -/
theorem cr_maxDK (K : PySem.W.Frag) {X : Cx} (hc : X.calm = true) (hu : X.A.units + 64 < cLine) (hK : X.K = K := by rfl) : CallR X (.builtin "max") (rMaxD K) := hK ▸ cr_maxD hc hu
theorem isi_tq {K : PySem.W.Frag} {H : Hp} {Q : VK} {p : Addr} {xs : List V} (h : SqT K H p xs) (q : Q (.bl true) H) : rIsi K [.ref p, .ty "tuple"] H Q := by
  refine isi_ty (t := "tuple") ?_ (kit_ty (by decide +kernel)) q
  rcases h with (h | ⟨o, h⟩) | ⟨o, its, n, h1, h2, _⟩
  · exact .base (.tup h)
  · exact .fTuple h
  · exact .kTuple h1 h2
theorem isi_nt {K : PySem.W.Frag} {H : Hp} {Q : VK} (q : Q (.bl false) H) : rIsi K [.non, .ty "tuple"] H Q := isi_ty (.base .non) (kit_ty (by decide +kernel)) q
theorem isi_it {K : PySem.W.Frag} {H : Hp} {Q : VK} {i : Int} (q : Q (.bl false) H) : rIsi K [.int i, .ty "tuple"] H Q := isi_ty (.base (.int i)) (kit_ty (by decide +kernel)) q
theorem isi_lt {K : PySem.W.Frag} {H : Hp} {Q : VK} {p : Addr} {xs : List V} (h : H p = some (.lst xs)) (q : Q (.bl false) H) : rIsi K [.ref p, .ty "tuple"] H Q := isi_ty (.base (.lst h)) (kit_ty (by decide +kernel)) q
def rE (e : En) (j : Nat) : PyData := [PyData.int e.ht, .int e.tm, .int (if e.dl = true then 0 else 1), .int (-e.mr.1), .int (-e.mr.2), .tuple (Di (row9 e.f))].getD j .none
def qE (e g : En) (j : Nat) : Bool := PyData.eqv (rE e j) (rE g j)
theorem six {j : Nat} (h : j < 6) : j = 0 ∨ j = 1 ∨ j = 2 ∨ j = 3 ∨ j = 4 ∨ j = 5 := by omega
theorem qE_iff {e g : En} {j : Nat} (h : j < 6) : qE e g j = true ↔ rE e j = rE g j := by
  rcases six h with h | h | h | h | h | h <;> subst h <;> simp [qE, rE, PyData.eqv, eqvAll_ints]
  constructor
  · intro z; rw [z]
  · intro z
    exact (List.map_inj_right (fun _ _ h => by cases h; rfl)).mp z
theorem rE_plain (e : En) {j : Nat} (h : j < 6) : (rE e j).plain = true := by
  rcases six h with h | h | h | h | h | h <;> subst h <;> simp [rE, PyData.plain, plain_ints]
theorem rE_depth (e : En) {j : Nat} (h : j < 6) : (rE e j).depth ≤ 1 := by
  rcases six h with h | h | h | h | h | h <;> subst h <;> simp [rE, PyData.depth, Vf.depthAll_ints]
theorem rE_can (e : En) {j : Nat} (h : j < 6) : (rE e j).canLay0 = true := by
  rcases six h with h | h | h | h | h | h <;> subst h <;> simp [rE, PyData.canLay0, Vf.canAll_ints]
theorem kdE_rE (e : En) : kdE e = .tuple [rE e 0, rE e 1, rE e 2, rE e 3, rE e 4, rE e 5] := rfl
theorem kq_iff (e g : En) : PyData.eqv (kdE e) (kdE g) = true ↔ ∀ j, j < 6 → qE e g j = true := by
  rw [kdE_rE, kdE_rE]
  simp only [PyData.eqv, PyData.eqvAll, Bool.and_eq_true, and_true]
  constructor
  · rintro ⟨h0, h1, h2, h3, h4, h5⟩ j h
    rcases six h with h | h | h | h | h | h <;> subst h <;> assumption
  · intro h
    exact ⟨h 0 (by decide), h 1 (by decide), h 2 (by decide), h 3 (by decide), h 4 (by decide), h 5 (by decide)⟩
theorem kq_rE {e g : En} (h : PyData.eqv (kdE e) (kdE g) = true) {j : Nat} (hj : j < 6) : rE e j = rE g j := (qE_iff hj).mp ((kq_iff e g).mp h j hj)
theorem kq_tr {e g : En} (h : PyData.eqv (kdE e) (kdE g) = true) : kdE e = kdE g := by
  rw [kdE_rE, kdE_rE, kq_rE h (j := 0) (by decide), kq_rE h (j := 1) (by decide), kq_rE h (j := 2) (by decide), kq_rE h (j := 3) (by decide), kq_rE h (j := 4) (by decide), kq_rE h (j := 5) (by decide)]
theorem kdE_can (e : En) : (kdE e).canLay0 = true := by
  simp [kdE, PyData.canLay0, PyData.canLayAll0, Vf.canAll_ints]
theorem kdE_shaped (e : En) : SeqAt.shaped (kdE e) = true := shaped_tuple (by have := kdE_can e; exact this) (by have := kdE_depth e; show PyData.depthAll _ ≤ 60; have h2 : PyData.depthAll [.int e.ht, .int e.tm, .int (if e.dl = true then 0 else 1), .int (-e.mr.1), .int (-e.mr.2), .tuple (Di (row9 e.f))] + 1 ≤ 60 := this; omega)
theorem alk_tr {e g h : En} (q : alk g h = true) : alk e g = alk e h := by
  unfold alk at *
  simp only [Bool.and_eq_true, beq_iff_eq, decide_eq_true_eq] at q
  rw [q.1, q.2]
def kA : PyData := .tuple [.str "alike"]
def kL (e g : En) (i : Nat) : PyData := .tuple [.str "less", .int (i : Nat), rE e i, rE g i]
inductive Rsn (e g : En) : PyData → Prop where
  | al (h : alk e g = true) : Rsn e g kA
  | no (h : alk e g = false) (q : ∀ j, j < 6 → qE e g j = true) : Rsn e g kA
  | le (i : Nat) (h : alk e g = false) (hi : i < 6) (q : ∀ j, j < i → qE e g j = true) (n : qE e g i = false) : Rsn e g (kL e g i)
theorem Rsn.un {e g : En} {d d' : PyData} (h : Rsn e g d) (h' : Rsn e g d') : d = d' := by
  cases h with
  | al a =>
    cases h' with
    | al _ => rfl
    | no b _ => rfl
    | le i b _ _ _ => rw [a] at b; cases b
  | no a q =>
    cases h' with
    | al _ => rfl
    | no b _ => rfl
    | le i b hi _ n => rw [q i hi] at n; cases n
  | le i a hi q n =>
    cases h' with
    | al b => rw [a] at b; cases b
    | no b q2 => rw [q2 i hi] at n; cases n
    | le j b hj q2 n2 =>
      have e1 : ¬ i < j := fun z => by rw [q2 i z] at n; cases n
      have e2 : ¬ j < i := fun z => by rw [q j z] at n2; cases n2
      have e3 : i = j := by omega
      rw [e3]
theorem Rsn.plain {e g : En} {d : PyData} (h : Rsn e g d) : d.plain = true ∧ d.depth ≤ 5 ∧ PyData.eqv d d = true := by
  cases h with
  | al a => exact ⟨by simp [kA, PyData.plain, PyData.plainAll], by simp [kA, PyData.depth, PyData.depthAll], by simp [kA, PyData.eqv, PyData.eqvAll]⟩
  | no a q => exact ⟨by simp [kA, PyData.plain, PyData.plainAll], by simp [kA, PyData.depth, PyData.depthAll], by simp [kA, PyData.eqv, PyData.eqvAll]⟩
  | le i a hi q n =>
    have h1 : ∀ e : En, qE e e i = true := fun e => (qE_iff hi).mpr rfl
    have h2 := h1 e
    have h3 := h1 g
    have h4 := rE_depth e hi
    have h5 := rE_depth g hi
    unfold qE at h2 h3
    refine ⟨by simp [kL, PyData.plain, PyData.plainAll, rE_plain _ hi], ?_, by simp [kL, PyData.eqv, PyData.eqvAll, h2, h3]⟩
    simp [kL, PyData.depth, PyData.depthAll]
    omega
theorem Rsn.tup {e g : En} {d : PyData} (h : Rsn e g d) : ∃ s ds, d = .tuple (.str s :: ds) ∧ (s = "alike" ∨ s = "less") ∧ (ds = [] ∨ ∃ (i : Nat) (x y : PyData), ds = [.int i, x, y]) := by
  cases h with
  | al a => exact ⟨_, _, rfl, .inl rfl, .inl rfl⟩
  | no a q => exact ⟨_, _, rfl, .inl rfl, .inl rfl⟩
  | le i a hi q n => exact ⟨_, _, rfl, .inr rfl, .inr ⟨i, _, _, rfl⟩⟩
/-- reasons against two entries that are alike and whose keys are one -/
theorem Rsn.to {e g h : En} {d : PyData} (r : Rsn e g d) (a : alk g h = true) (k : PyData.eqv (kdE g) (kdE h) = true) : Rsn e h d := by
  have e1 := alk_tr (e := e) a
  have e2 : ∀ j, j < 6 → qE e g j = qE e h j := fun j hj => by
    unfold qE
    rw [kq_rE k hj]
  cases r with
  | al b => exact .al (e1 ▸ b)
  | no b q => exact .no (e1 ▸ b) fun j hj => by rw [← e2 j hj]; exact q j hj
  | le i b hi q n =>
    have e3 : kL e g i = kL e h i := by unfold kL; rw [kq_rE k hi]
    rw [e3]
    exact .le i (e1 ▸ b) hi (fun j hj => by rw [← e2 j (by omega)]; exact q j hj) (by rw [← e2 i hi]; exact n)
theorem dp_tup {K : PySem.W.Frag} {H : Hp} {v : V} {ds : List PyData} (h : Dp K H v (.tuple ds)) : ∃ p xs, v = .ref p ∧ SqT K H p xs ∧ DpAll K H xs ds := by
  cases h with
  | tup h a => exact ⟨_, _, rfl, h, a⟩
theorem dp_int {K : PySem.W.Frag} {H : Hp} {v : V} {i : Int} (h : Dp K H v (.int i)) : v = .int i := by
  cases h
  rfl
theorem dpa_cons {K : PySem.W.Frag} {H : Hp} {v : List V} {d : PyData} {ds : List PyData} (h : DpAll K H v (d :: ds)) : ∃ x xs, v = x :: xs ∧ Dp K H x d ∧ DpAll K H xs ds := by
  cases h with
  | cons a b => exact ⟨_, _, rfl, a, b⟩
theorem dpa_len {K : PySem.W.Frag} {H : Hp} : ∀ {xs : List V} {ds : List PyData}, DpAll K H xs ds → xs.length = ds.length
  | _, _, .nil => rfl
  | _, _, .cons _ b => by rw [List.length_cons, List.length_cons, dpa_len b]
theorem dpa_get {K : PySem.W.Frag} {H : Hp} : ∀ {xs : List V} {ds : List PyData}, DpAll K H xs ds → ∀ (i : Nat) (x : V), xs[i]? = some x → ∃ d, ds[i]? = some d ∧ Dp K H x d
  | _, _, .nil, i, x, h => by simp at h
  | _, _, .cons a b, 0, x, h => by
    rw [List.getElem?_cons_zero] at h
    cases h
    exact ⟨_, rfl, a⟩
  | _, _, .cons a b, i + 1, x, h => by
    rw [List.getElem?_cons_succ] at h ⊢
    exact dpa_get b i x h
theorem e_enumZ {K : PySem.W.Frag} {ta : TA} {σ : L2.St} {H : Hp} {R : It → Hp → Prop} (q : ta σ H fun vs H1 => ∃ a b xs ys, vs = [.ref a, .ref b] ∧ SqT K H1 a xs ∧ SqT K H1 b ys ∧ R (IteZ K a b) H1) : iEnumZ K ta σ H R := q
theorem e_zipLT {K : PySem.W.Frag} {ta : TA} {σ : L2.St} {H : Hp} {R : It → Hp → Prop} (q : ta σ H fun vs H1 => ∃ a b xs ys, vs = [.ref a, .ref b] ∧ SqL K H1 a xs ∧ SqT K H1 b ys ∧ R (ItzLT K a b) H1) : iZipLT K ta σ H R := q
mutual
def nl : PyData → Bool
  | .list _ => false
  | .tuple ds => nlA ds
  | _ => true
def nlA : List PyData → Bool
  | [] => true
  | d :: r => nl d && nlA r
end
mutual
theorem dp_hid {K : PySem.W.Frag} {D : List Addr} {H : Hp} (n : ∀ d ∈ D, NT H d) : ∀ {v : V} {d : PyData}, Dp K H v d → nl d = true → Dp K (hid D H) v d
  | _, _, .non, _ => .non
  | _, _, .bl b, _ => .bl b
  | _, _, .int i, _ => .int i
  | _, _, .str x, _ => .str x
  | _, _, .lst h a, z => by rw [nl] at z; cases z
  | _, _, .tup h a, z => .tup (sqT_hid h n) (dpa_hid n a (by rw [nl] at z; exact z))
theorem dpa_hid {K : PySem.W.Frag} {D : List Addr} {H : Hp} (n : ∀ d ∈ D, NT H d) : ∀ {v : List V} {d : List PyData}, DpAll K H v d → nlA d = true → DpAll K (hid D H) v d
  | _, _, .nil, _ => .nil
  | _, _, .cons a b, z => by
    rw [nlA, Bool.and_eq_true] at z
    exact .cons (dp_hid n a z.1) (dpa_hid n b z.2)
end
theorem nl_ints : ∀ xs : List Int, nlA (Di xs) = true
  | [] => rfl
  | x :: xs => by
    show nlA (.int x :: Di xs) = true
    rw [nlA, nl, nl_ints xs]
    · rfl
    · exact nofun
    · exact nofun
theorem nl_rE (e : En) (j : Nat) : nl (rE e j) = true := by
  by_cases h : j < 6
  · rcases six h with h | h | h | h | h | h <;> subst h <;> simp [rE, nl, nl_ints]
  · have : rE e j = .none := by
      unfold rE
      rw [List.getD_eq_getElem?_getD, List.getElem?_eq_none (by simp; omega)]
      rfl
    rw [this]
    simp [nl]
theorem Rsn.nl {e g : En} {d : PyData} (h : Rsn e g d) : nl d = true := by
  cases h <;> simp [kA, kL, Vk50.nl, nlA, nl_rE]
theorem key_hid {K : PySem.W.Frag} {D : List Addr} {H : Hp} {r : Addr} {e : En} (n : ∀ d ∈ D, NT H d) (h : KeyT K H r e) : KeyT K (hid D H) r e := by
  obtain ⟨c, h1, h2⟩ := h
  exact ⟨c, sqT_hid h1 n, sqT_hid h2 n⟩
/-- the parts of a key -/
theorem key_parts {K : PySem.W.Frag} {H : Hp} {r : Addr} {e : En} (h : KeyT K H r e) : ∃ xs, SqT K H r xs ∧ xs.length = 6 ∧ ∀ i x, xs[i]? = some x → Dp K H x (rE e i) := by
  have h1 := key_dp h
  rw [kdE_rE] at h1
  obtain ⟨p, xs, e1, hs, hd⟩ := dp_tup h1
  cases e1
  refine ⟨xs, hs, dpa_len hd, fun i x hx => ?_⟩
  obtain ⟨d, e2, h2⟩ := dpa_get hd i x hx
  have hi := (List.getElem?_eq_some_iff.mp hx).1
  have h6 := dpa_len hd
  have hi6 : i < 6 := by rw [h6] at hi; exact hi
  rcases six hi6 with z | z | z | z | z | z <;> subst z <;> cases e2 <;> exact h2
/-- the first of the best -/
def Bst (es : List En) (i : Nat) : Prop := i < es.length ∧ PyData.eqv (kdL es i) (kdL es (mxI (kdL es) es.length)) = true ∧ ∀ j, j < i → PyData.eqv (kdL es j) (kdL es (mxI (kdL es) es.length)) = false
theorem Bst.un {es : List En} {i j : Nat} (h : Bst es i) (g : Bst es j) : i = j := by
  have e1 : ¬ i < j := fun z => by have := g.2.2 i z; rw [h.2.1] at this; cases this
  have e2 : ¬ j < i := fun z => by have := h.2.2 j z; rw [g.2.1] at this; cases this
  omega
theorem mxI_lt (kd : Nat → PyData) {n : Nat} (h : 0 < n) : mxI kd n < n := by
  have h1 := argBest_lt (mxB kd) (n - 1)
  show argBest (mxB kd) (n - 1) < n
  omega
theorem least {n : Nat} {p : Nat → Bool} (h : ∃ i, i < n ∧ p i = true) : ∃ i, i < n ∧ p i = true ∧ ∀ j, j < i → p j = false := by
  induction n with
  | zero => obtain ⟨i, hi, _⟩ := h; omega
  | succ n ih =>
    by_cases h2 : ∃ i, i < n ∧ p i = true
    · obtain ⟨i, hi, z⟩ := ih h2
      exact ⟨i, by omega, z⟩
    · obtain ⟨i, hi, hp⟩ := h
      have e : i = n := by
        by_cases z : i < n
        · exact absurd ⟨i, z, hp⟩ h2
        · omega
      subst e
      refine ⟨i, hi, hp, fun j hj => ?_⟩
      cases z : p j with
      | false => rfl
      | true => exact absurd ⟨j, hj, z⟩ h2
theorem bst_ex (es : List En) (h : 0 < es.length) : ∃ i, Bst es i := by
  obtain ⟨i, h1, h2, h3⟩ := least (n := es.length) (p := fun j => PyData.eqv (kdL es j) (kdL es (mxI (kdL es) es.length))) ⟨_, mxI_lt _ h, kdE_self _⟩
  exact ⟨i, h1, h2, h3⟩
def adr : V → Addr
  | .ref a => a
  | _ => 0
theorem refs_of {us : List V} {R : Nat → Addr → Prop} (h : ∀ i v, us[i]? = some v → ∃ q, v = .ref q ∧ R i q) : ∃ qs : List Addr, us = qs.map V.ref ∧ ∀ (i : Nat) (q : Addr), qs[i]? = some q → R i q := by
  refine ⟨us.map adr, ?_, fun i q hq => ?_⟩
  · refine List.ext_getElem (by simp) fun i h1 h2 => ?_
    obtain ⟨q, e, _⟩ := h i us[i] (List.getElem?_eq_getElem h1)
    rw [List.getElem_map, List.getElem_map, e]
    rfl
  · rw [List.getElem?_map] at hq
    obtain ⟨v, hv, rfl⟩ := Option.map_eq_some_iff.mp hq
    obtain ⟨q, rfl, z⟩ := h i v hv
    exact z
theorem dpa_mk {K : PySem.W.Frag} {H : Hp} : ∀ {xs : List V} {ds : List PyData}, xs.length = ds.length → (∀ (i : Nat) x d, xs[i]? = some x → ds[i]? = some d → Dp K H x d) → DpAll K H xs ds
  | [], [], _, _ => .nil
  | x :: xs, d :: ds, h, q => .cons (q 0 x d rfl rfl) (dpa_mk (by simpa using h) fun i y e h1 h2 => q (i + 1) y e (by simpa using h1) (by simpa using h2))
  | [], _ :: _, h, _ => by simp at h
  | _ :: _, [], h, _ => by simp at h
/-- a list of keys -/
structure Kys (K : PySem.W.Frag) (H : Hp) (D : Addr) (qs : List Addr) (es : List En) : Prop where
  l : SqL K H D (qs.map V.ref)
  n : qs.length = es.length
  k : ∀ (i : Nat) (q : Addr), qs[i]? = some q → KeyT K H q (es.getD i dE)
theorem Kys.same {K : PySem.W.Frag} {H H' : Hp} {D : Addr} {qs : List Addr} {es : List En} (h : Kys K H D qs es) (s : Same H H') : Kys K H' D qs es := ⟨s.seq h.l, h.n, fun i q z => (h.k i q z).same s⟩
theorem Kys.md {K : PySem.W.Frag} {H : Hp} {D : Addr} {qs : List Addr} {es : List En} (h : Kys K H D qs es) : MdK K H D qs (kdL es) :=
  ⟨h.l, fun i p hp => key_dp (h.k i p hp), fun _ _ _ _ => kdE_alike _ _, fun _ _ => nofun, fun _ _ => kdE_depth _⟩
theorem Kys.at {K : PySem.W.Frag} {H : Hp} {D : Addr} {qs : List Addr} {es : List En} (h : Kys K H D qs es) {i : Nat} (hi : i < es.length) : ∃ q, qs[i]? = some q ∧ atI (qs.map V.ref) (i : Int) = some (.ref q) ∧ KeyT K H q (es.getD i dE) := by
  have e1 : qs[i]? = some (qs[i]'(by rw [h.n]; exact hi)) := List.getElem?_eq_getElem _
  exact ⟨_, e1, at_of (j := i) rfl (by rw [List.getElem?_map, e1]; rfl), h.k i _ e1⟩
theorem can_keys : ∀ es : List En, PyData.canLayAll0 (es.map kdE) = true
  | [] => by simp [PyData.canLayAll0]
  | e :: es => by
    rw [List.map_cons, PyData.canLayAll0, kdE_can, can_keys es]
    rfl
theorem depth_keys : ∀ es : List En, PyData.depthAll (es.map kdE) ≤ 60
  | [] => by simp [PyData.depthAll]
  | e :: es => by
    rw [List.map_cons, PyData.depthAll]
    have := depth_keys es
    have := kdE_depth e
    omega
theorem Kys.dp {K : PySem.W.Frag} {H : Hp} {D : Addr} {qs : List Addr} {es : List En} (h : Kys K H D qs es) : Dp K H (.ref D) (.list (es.map kdE)) := by
  refine .lst h.l (dpa_mk (by rw [List.length_map, List.length_map, h.n]) fun i x d hx hd => ?_)
  rw [List.getElem?_map] at hx hd
  obtain ⟨q, hq, rfl⟩ := Option.map_eq_some_iff.mp hx
  obtain ⟨e, he, rfl⟩ := Option.map_eq_some_iff.mp hd
  have z := h.k i q hq
  rw [getD_of he] at z
  exact key_dp z
theorem ds_at {es : List En} {i : Nat} (h : i < es.length) : (es.map kdE)[i]? = some (kdL es i) := by
  rw [List.getElem?_map, List.getElem?_eq_getElem h]
  show some (kdE es[i]) = some (kdE (es.getD i dE))
  rw [getD_of (List.getElem?_eq_getElem h)]
/-- rows of reasons against one entry -/
def Rws (K : PySem.W.Frag) (H : Hp) (vs : List V) (es : List En) (g : En) : Prop := Paired (fun v e => ∃ d, Rsn e g d ∧ Dp K H v d) vs es
theorem Rws.same {K : PySem.W.Frag} {H H' : Hp} {vs : List V} {es : List En} {g : En} (h : Rws K H vs es g) (s : Same H H') : Rws K H' vs es g := paired_imp (fun _ _ ⟨d, a, b⟩ => ⟨d, a, dp_same s b⟩) h
structure Pap (K : PySem.W.Frag) (H : Hp) (r w : Addr) (i : Nat) (vs : List V) (es : List En) : Prop where
  r : SqT K H r [.int i, .ref w]
  w : SqT K H w vs
  b : Bst es i
  v : Rws K H vs es (es.getD i dE)
theorem Pap.same {K : PySem.W.Frag} {H H' : Hp} {r w : Addr} {i : Nat} {vs : List V} {es : List En} (h : Pap K H r w i vs es) (s : Same H H') : Pap K H' r w i vs es := ⟨same_tup s h.r, same_tup s h.w, h.b, h.v.same s⟩
structure Lst (K : PySem.W.Frag) (H : Hp) (a : Addr) (ps : List Addr) (es : List En) : Prop where
  l : SqL K H a (ps.map V.ref)
  p : Ents K H true ps es
  f : ∀ e ∈ es, ∀ k, 0 ≤ e.f k
  n0 : 0 < es.length
  n : es.length ≤ 60
theorem Lst.same {K : PySem.W.Frag} {H H' : Hp} {a : Addr} {ps : List Addr} {es : List En} (h : Lst K H a ps es) (s : Same H H') : Lst K H' a ps es := ⟨s.seq h.l, ents_same s h.p, h.f, h.n0, h.n⟩
theorem Lst.at {K : PySem.W.Frag} {H : Hp} {a : Addr} {ps : List Addr} {es : List En} (h : Lst K H a ps es) {i : Nat} (hi : i < es.length) : ∃ p, atI (ps.map V.ref) (i : Int) = some (.ref p) ∧ ps[i]? = some p ∧ Ent K H true p (es.getD i dE) ∧ (∀ k, 0 ≤ (es.getD i dE).f k) ∧ es[i]? = some (es.getD i dE) := by
  have hl := paired_len h.p
  have e1 : ps[i]? = some (ps[i]'(by omega)) := List.getElem?_eq_getElem (by omega)
  obtain ⟨e, he, hE⟩ := paired_get h.p i _ e1
  refine ⟨_, at_of (j := i) rfl (by rw [List.getElem?_map, e1]; rfl), e1, ?_, ?_, ?_⟩
  · rw [getD_of he]; exact hE
  · rw [getD_of he]; exact h.f e (List.mem_of_getElem? he)
  · rw [getD_of he]; exact he
/-- a row told, and whether it is the reason -/
def Tk (K : PySem.W.Frag) (H : Hp) (v : V) (e g : En) (b : Bool) : Prop := ∃ d, Dp K H v d ∧ ((b = true ∧ Rsn e g d) ∨ (b = false ∧ d.plain = true ∧ d.depth ≤ 60 ∧ ∀ r, Rsn e g r → PyData.eqv d r = false))
theorem Tk.same {K : PySem.W.Frag} {H H' : Hp} {v : V} {e g : En} {b : Bool} (h : Tk K H v e g b) (s : Same H H') : Tk K H' v e g b := by
  obtain ⟨d, h1, h2⟩ := h
  exact ⟨d, dp_same s h1, h2⟩
/-- what a judge says of a paper -/
inductive Jdg (K : PySem.W.Frag) (H : Hp) (es : List En) (eg : En) : V → Bool → Prop where
  | non : Jdg K H es eg .non false
  | int (i : Int) : Jdg K H es eg (.int i) false
  | lst {a : Addr} {xs : List V} (h : H a = some (.lst xs)) : Jdg K H es eg (.ref a) false
  | len {a : Addr} {xs : List V} (h : SqT K H a xs) (n : xs.length ≠ 2) : Jdg K H es eg (.ref a) false
  | bl {a : Addr} {b : Bool} {y : V} (h : SqT K H a [.bl b, y]) : Jdg K H es eg (.ref a) false
  | ix {a : Addr} {k : Int} {y : V} (h : SqT K H a [.int k, y]) (n : k < 0 ∨ (es.length : Int) ≤ k) : Jdg K H es eg (.ref a) false
  | rl {a q : Addr} {k : Nat} {xs : List V} (h : SqT K H a [.int k, .ref q]) (n : k < es.length) (hq : H q = some (.lst xs)) : Jdg K H es eg (.ref a) false
  | rn {a q : Addr} {k : Nat} {xs : List V} (h : SqT K H a [.int k, .ref q]) (n : k < es.length) (hq : SqT K H q xs) (l : xs.length ≠ es.length) : Jdg K H es eg (.ref a) false
  | ky {a q : Addr} {k : Nat} {xs : List V} (h : SqT K H a [.int k, .ref q]) (n : k < es.length) (hq : SqT K H q xs) (l : xs.length = es.length) (e : PyData.eqv (kdL es k) (kdL es (mxI (kdL es) es.length)) = false) : Jdg K H es eg (.ref a) false
  | ot {a q : Addr} {k : Nat} {xs : List V} (h : SqT K H a [.int k, .ref q]) (n : k < es.length) (hq : SqT K H q xs) (l : xs.length = es.length) (e : PyData.eqv (kdL es k) (kdL es (mxI (kdL es) es.length)) = true) (o : enEq eg (winE es) = false) : Jdg K H es eg (.ref a) false
  | rw {a q : Addr} {k : Nat} {xs : List V} (h : SqT K H a [.int k, .ref q]) (n : k < es.length) (hq : SqT K H q xs) (l : xs.length = es.length) (e : PyData.eqv (kdL es k) (kdL es (mxI (kdL es) es.length)) = true) (o : enEq eg (winE es) = true)
      (t : Nat → Bool) (ht : ∀ i v, xs[i]? = some v → Tk K H v (es.getD i dE) (es.getD k dE) (t i)) : Jdg K H es eg (.ref a) (((List.range es.length).map t).all id)
def sp_is_integer (K : PySem.W.Frag) : Sp := sp1 fun x H Q => (∃ n, x = .int n ∧ Q (.bl true) H) ∨ ∃ b, x = .bl b ∧ Q (.bl false) H
def sp_is_index (K : PySem.W.Frag) : Sp := sp2 fun x y H Q => ∃ n : Nat, y = .int n ∧ ((∃ k : Int, x = .int k ∧ Q (.bl (decide (0 ≤ k) && decide (k < n))) H) ∨ ∃ b, x = .bl b ∧ Q (.bl false) H)
def sp_reason (K : PySem.W.Frag) : Sp := sp2 fun x y H Q => ∃ (a b : Addr) (p p2 : Bool) (e g : En), x = .ref a ∧ y = .ref b ∧ Ent K H p a e ∧ Ent K H p2 b g ∧ (∀ k, 0 ≤ e.f k) ∧ (∀ k, 0 ≤ g.f k) ∧
  ∀ (r : Addr) (d : PyData) (H' : Hp), Same H H' → Rsn e g d → Dp K H' (.ref r) d → Q (.ref r) H'
def sp_reasons (K : PySem.W.Frag) : Sp := sp1 fun x H Q => ∃ (a : Addr) (ps : List Addr) (es : List En), x = .ref a ∧ Lst K H a ps es ∧
  ∀ (r w : Addr) (i : Nat) (vs : List V) (H' : Hp), Same H H' → Pap K H' r w i vs es → Q (.ref r) H'
def sp_law_due (K : PySem.W.Frag) : Sp := sp1 fun x H Q => ∃ (a : Addr) (ps : List Addr) (es : List En), x = .ref a ∧ Lst K H a ps es ∧ (∀ H', Same H H' → Q .non H') ∧
  ∀ (r w : Addr) (i : Nat) (vs : List V) (H' : Hp), Same H H' → Pap K H' r w i vs es → (∀ e ∈ es, alk e (es.getD i dE) = true ∨ PyData.eqv (kdE e) (kdL es i) = false) → Q (.ref r) H'
def sp_takes_reason (K : PySem.W.Frag) : Sp := sp2 fun x y H Q => ∃ (e g : En) (p : Addr) (r : PyData) (b : Bool), y = .ref p ∧ Rsn e g r ∧ Dp K H (.ref p) r ∧ Tk K H x e g b ∧ ∀ H', Same H H' → Q (.bl b) H'
def sp_judge_winner (K : PySem.W.Frag) : Sp := sp3 fun x y z H Q => ∃ (a b : Addr) (ps : List Addr) (es : List En) (p : Bool) (eg : En) (t : Bool), x = .ref a ∧ y = .ref b ∧ Lst K H a ps es ∧ Ent K H p b eg ∧ Jdg K H es eg z t ∧ ∀ H', Same H H' → Q (.bl t) H'
abbrev sp_law_alike := sp_alike
def sp_law_key (K : PySem.W.Frag) : Sp := sp1 fun x H Q => ∃ (a : Addr) (e : En), x = .ref a ∧ Ent K H true a e ∧ (∀ k, 0 ≤ e.f k) ∧ ∀ (r : Addr) (H' : Hp), Same H H' → KeyT K H' r e → Q (.ref r) H'
theorem e_neEE {K : PySem.W.Frag} {H : Hp} {Q : VK} {a b : Addr} {p p2 : Bool} {e g : En} (h1 : Ent K H p a e) (h2 : Ent K H p2 b g) (q : Q (.bl (!enEq e g)) H) : rNeO K (cEnt K) (sp_Entry___eq__ K) E0 (.ref a) (.ref b) H Q := by
  obtain ⟨dx, v, m, bb, fs, k1, _⟩ := id h1
  obtain ⟨dy, v2, m2, bb2, gs, k2, _⟩ := id h2
  exact ⟨a, b, dx, dy, fs, gs, rfl, rfl, k1, k2, _, _, rfl, a, p, e, rfl, h1, .inl ⟨b, p2, g, rfl, h2, _, rfl, q⟩⟩
theorem Prx.kp {H H' : Hp} {st : Addr} {ps : List Addr} {v : Vc} {l : List V} (h : Prx H ps v) (k : Kp st H H') (e : H st = some (.lst l)) : Prx H' ps v := paired_imp (fun p c q => k _ _ (fun z => by rw [z, e] at q; cases q) q) h
theorem dw_st {K : PySem.W.Frag} {st sc : Addr} {ns : List Int} {H : Hp} (d : Dw K st sc ns H) : ∃ l, H st = some (.lst l) := by
  obtain ⟨a, b, c, h1, h2, hc, h3⟩ := d.s
  exact ⟨_, h3⟩
theorem dw_nt {K : PySem.W.Frag} {st sc : Addr} {ns : List Int} {H : Hp} (d : Dw K st sc ns H) : ∀ x ∈ [st], NT H x := fun x hx => by
  obtain ⟨l, e⟩ := dw_st d
  rw [List.mem_singleton.mp hx]
  exact nt_lst e
theorem pvec_hid {K : PySem.W.Frag} {D : List Addr} {H : Hp} {r : Addr} {v : Vc} (n : ∀ d ∈ D, NT H d) (h : PVec K H r v) : PVec K (hid D H) r v := by
  obtain ⟨ps, ⟨c9, hd, h1⟩, h2⟩ := h
  exact ⟨ps, ⟨c9, hd, by rw [hid_at fun m => (n r m).2 _ _ h1]; exact h1⟩, paired_imp (fun _ _ q => sqT_hid q n) h2⟩
theorem at_snoc {us : List V} {x : V} {F : Nat → V → Prop} (h : ∀ j v, us[j]? = some v → F j v) (hx : F us.length x) : ∀ j v, (us ++ [x])[j]? = some v → F j v := fun j v hj => by
  by_cases hl : j < us.length
  · rw [List.getElem?_append_left hl] at hj
    exact h j v hj
  · rw [List.getElem?_append_right (by omega)] at hj
    have hj2 := (List.getElem?_eq_some_iff.mp hj).1
    have z : j = us.length := by simp at hj2; omega
    subst z
    rw [Nat.sub_self] at hj
    cases hj
    exact hx
theorem e_catA {K : PySem.W.Frag} {H : Hp} {Q : VK} {a b : Addr} {xs ys : List V} (h1 : SqT K H a xs) (h2 : SqT K H b ys) (hn : xs.length + ys.length ≤ 1000) (q : ∀ r H', Same H H' → SqT K H' r (xs ++ ys) → Q (.ref r) H') : rCatA K (.ref a) (.ref b) H Q :=
  ⟨a, b, xs, ys, rfl, rfl, h1, h2, Nat.le_trans hn (by decide), fun e => q b H (Same.refl H) (by rw [e]; exact h2), fun _ e => q a H (Same.refl H) (by rw [e, List.append_nil]; exact h1), fun _ _ p hp => q p _ (same_new hp) (SqT.of upd_same)⟩
/-- a plain thing, told as data -/
def Od (K : PySem.W.Frag) (H : Hp) (v : V) : Prop := ∃ d, Dp K H v d ∧ d.plain = true ∧ d.depth ≤ 20
theorem Od.same {K : PySem.W.Frag} {H H' : Hp} {v : V} (h : Od K H v) (s : Same H H') : Od K H' v := by
  obtain ⟨d, h1, h2⟩ := h
  exact ⟨d, dp_same s h1, h2⟩
/-- a row of reasons -/
structure Rw2 (K : PySem.W.Frag) (H : Hp) (p : Addr) (xs : List V) (ds : List PyData) : Prop where
  q : SqT K H p xs
  d : DpAll K H xs ds
  p : ∀ x ∈ ds, x.plain = true ∧ x.depth ≤ 5
  n : ds.length = 1 ∨ ds.length = 4
theorem Rw2.same {K : PySem.W.Frag} {H H' : Hp} {p : Addr} {xs : List V} {ds : List PyData} (h : Rw2 K H p xs ds) (s : Same H H') : Rw2 K H' p xs ds := ⟨same_tup s h.q, dpa_same s h.d, h.p, h.n⟩
theorem plA {ds : List PyData} (h : ∀ x ∈ ds, x.plain = true ∧ x.depth ≤ 5) : PyData.plainAll ds = true ∧ PyData.depthAll ds ≤ 5 := by
  induction ds with
  | nil => exact ⟨by simp [PyData.plainAll], by simp [PyData.depthAll]⟩
  | cons x ds ih =>
    have h1 := h x (List.mem_cons_self ..)
    have h2 := ih fun y hy => h y (List.mem_cons_of_mem _ hy)
    exact ⟨by rw [PyData.plainAll, h1.1, h2.1]; rfl, by rw [PyData.depthAll]; omega⟩
theorem dpa_app {K : PySem.W.Frag} {H : Hp} : ∀ {xs : List V} {ds : List PyData} {ys : List V} {es : List PyData}, DpAll K H xs ds → DpAll K H ys es → DpAll K H (xs ++ ys) (ds ++ es)
  | _, _, _, _, .nil, h => h
  | _, _, _, _, .cons a b, h => .cons a (dpa_app b h)
theorem od_tup {K : PySem.W.Frag} {H : Hp} {p : Addr} {xs : List V} {ds : List PyData} (h : SqT K H p xs) (a : DpAll K H xs ds) (q : ∀ x ∈ ds, x.plain = true ∧ x.depth ≤ 5) : Od K H (.ref p) :=
  ⟨.tuple ds, .tup h a, by rw [PyData.plain]; exact (plA q).1, by have := (plA q).2; show PyData.depthAll ds + 1 ≤ 20; omega⟩
theorem od_lst {K : PySem.W.Frag} {H : Hp} {p : Addr} {xs : List V} {ds : List PyData} (h : SqL K H p xs) (a : DpAll K H xs ds) (q : ∀ x ∈ ds, x.plain = true ∧ x.depth ≤ 5) : Od K H (.ref p) :=
  ⟨.list ds, .lst h a, by rw [PyData.plain]; exact (plA q).1, by have := (plA q).2; show PyData.depthAll ds + 1 ≤ 20; omega⟩
theorem od_ints {K : PySem.W.Frag} {H : Hp} {p : Addr} {s : Str} {ns : List Int} (h : SqT K H p (.str s :: ns.map V.int)) : Od K H (.ref p) := by
  refine od_tup (ds := .str s :: Di ns) h (.cons (.str _) (dpAll_ints ns)) fun x hx => ?_
  rcases List.mem_cons.mp hx with rfl | hx
  · exact ⟨by simp [PyData.plain], by simp [PyData.depth]⟩
  · obtain ⟨i, _, rfl⟩ := List.mem_map.mp hx
    exact ⟨by simp [PyData.plain], by simp [PyData.depth]⟩
theorem Rw2.app {K : PySem.W.Frag} {H : Hp} {p r : Addr} {xs : List V} {ds : List PyData} (h : Rw2 K H p xs ds) (hr : SqT K H r (xs ++ [.int 0])) : Od K H (.ref r) := by
  refine od_tup hr (dpa_app h.d (.cons (.int 0) .nil)) fun x hx => ?_
  rcases List.mem_append.mp hx with hx | hx
  · exact h.p x hx
  · rw [List.mem_singleton.mp hx]
    exact ⟨by simp [PyData.plain], by simp [PyData.depth]⟩
theorem Rw2.cut {K : PySem.W.Frag} {H : Hp} {p r : Addr} {xs : List V} {ds : List PyData} (h : Rw2 K H p xs ds) (hr : SqT K H r (cutV xs none (some (-1)))) : Od K H (.ref r) := by
  obtain ⟨_, hd, hp, hn⟩ := h
  have hl := dpa_len hd
  rcases hn with hn | hn
  · match ds, hn with
    | [d1], _ =>
      obtain ⟨x1, xs, rfl, h1, hd⟩ := dpa_cons hd
      cases hd
      exact od_tup (ds := []) hr .nil fun x hx => by cases hx
  · match ds, hn with
    | [d1, d2, d3, d4], _ =>
      obtain ⟨x1, xs, rfl, h1, hd⟩ := dpa_cons hd
      obtain ⟨x2, xs, rfl, h2, hd⟩ := dpa_cons hd
      obtain ⟨x3, xs, rfl, h3, hd⟩ := dpa_cons hd
      obtain ⟨x4, xs, rfl, h4, hd⟩ := dpa_cons hd
      cases hd
      exact od_tup (ds := [d1, d2, d3]) hr (.cons h1 (.cons h2 (.cons h3 .nil))) fun x hx => hp x (by simp at hx ⊢; rcases hx with h | h | h <;> simp [h])
theorem Rsn.rw2 {K : PySem.W.Frag} {H : Hp} {e g : En} {d : PyData} {v : V} (h : Rsn e g d) (hd : Dp K H v d) : ∃ p xs ds, v = .ref p ∧ d = .tuple ds ∧ Rw2 K H p xs ds := by
  have pa : ∀ x ∈ [PyData.str "alike"], x.plain = true ∧ x.depth ≤ 5 := fun x hx => by
    rw [List.mem_singleton.mp hx]
    exact ⟨by simp [PyData.plain], by simp [PyData.depth]⟩
  cases h with
  | al a =>
    obtain ⟨p, xs, rfl, hq, ha⟩ := dp_tup hd
    exact ⟨p, xs, _, rfl, rfl, hq, ha, pa, .inl rfl⟩
  | no a q =>
    obtain ⟨p, xs, rfl, hq, ha⟩ := dp_tup hd
    exact ⟨p, xs, _, rfl, rfl, hq, ha, pa, .inl rfl⟩
  | le i a hi q n =>
    obtain ⟨p, xs, rfl, hq, ha⟩ := dp_tup hd
    refine ⟨p, xs, _, rfl, rfl, hq, ha, fun x hx => ?_, .inr rfl⟩
    have h4 := rE_depth e hi
    have h5 := rE_depth g hi
    simp only [List.mem_cons, List.not_mem_nil, or_false] at hx
    rcases hx with rfl | rfl | rfl | rfl
    · exact ⟨by simp [PyData.plain], by simp [PyData.depth]⟩
    · exact ⟨by simp [PyData.plain], by simp [PyData.depth]⟩
    · exact ⟨rE_plain _ hi, by omega⟩
    · exact ⟨rE_plain _ hi, by omega⟩
theorem more_ne {e g : En} {d : PyData} (h : Rsn e g d) : PyData.eqv (.tuple [.str "more"]) d = false := by
  cases h with
  | al a => decide +kernel
  | no a q => decide +kernel
  | le i a hi q n =>
    show PyData.eqvAll [.str "more"] [.str "less", .int (i : Nat), rE e i, rE g i] = false
    rw [PyData.eqvAll, PyData.eqv]
    have : (("more" : Str) == "less") = false := by decide +kernel
    rw [this]
    rfl
theorem madeN_cut {f : Nat → Int} {d : Nat} (h : ∀ k, k ≥ d → f k = 0) : ∀ n, d ≤ n → madeN n f = madeN d f
  | 0, hn => by
    have : d = 0 := by omega
    rw [this]
  | n + 1, hn => by
    by_cases e : d = n + 1
    · rw [e]
    · rw [madeN_succ, madeN_cut h n (by omega), if_neg (by rw [h n (by omega)]; decide), List.append_nil]
theorem madeN_ext {f g : Nat → Int} : ∀ n, (∀ k, k < n → f k = g k) → madeN n f = madeN n g
  | 0, _ => rfl
  | n + 1, h => by rw [madeN_succ, madeN_succ, madeN_ext n fun k hk => h k (by omega), h n (by omega)]
theorem made_snoc {f : Nat → Int} {d : Nat} (hd : d < 9) (h : ∀ k, k ≥ d → f k = 0) {c : Int} (hc : 0 < c) : made (fun k => if k = d then c else f k) = made f ++ [(((d : Nat) : Int) + 1, c)] := by
  show madeN 9 _ = madeN 9 f ++ _
  rw [madeN_cut (d := d + 1) (f := fun k => if k = d then c else f k) (fun k hk => by rw [if_neg (by omega)]; exact h k (by omega)) 9 (by omega), madeN_cut h 9 (by omega), madeN_succ]
  rw [if_pos (by rw [if_pos rfl]; exact hc), if_pos rfl, madeN_ext d fun k hk => if_neg (by omega)]
def sp_law_vector (K : PySem.W.Frag) : Sp := sp1 fun x H Q => ∃ (st sc : Addr) (ns : List Int), x = .ref st ∧ Dw K st sc ns H ∧ ∀ (r : Addr) (f : Nat → Int) (H' : Hp), Kp st H H' → Dw K st sc ns H' → (∀ k, 0 ≤ f k) → PVec K (hid [st] H') r (made f) → Q (.ref r) H'
def sp_law_entry (K : PySem.W.Frag) : Sp := sp1 fun x H Q => ∃ (st sc : Addr) (ns : List Int), x = .ref st ∧ Dw K st sc ns H ∧ ∀ (r : Addr) (e : En) (H' : Hp), Kp st H H' → Dw K st sc ns H' → (∀ k, 0 ≤ e.f k) → Ent K (hid [st] H') true r e → Q (.ref r) H'
def sp_law_spoilt (K : PySem.W.Frag) : Sp := sp2 fun x y H Q => ∃ (st sc r w : Addr) (ns : List Int) (i : Nat) (vs : List V) (es : List En), x = .ref st ∧ y = .ref r ∧ Dw K st sc ns H ∧ Pap K (hid [st] H) r w i vs es ∧ es.length ≤ 60 ∧
  ∀ (r' w' : Addr) (j : Nat) (v : V) (d : PyData) (H' : Hp), Kp st H H' → Dw K st sc ns H' → j < es.length → SqT K H' r' [.int i, .ref w'] → SqT K H' w' (vs.set j v) → Dp K H' v d → d.plain = true → d.depth ≤ 60 →
    (∀ x, Rsn (es.getD j dE) (es.getD i dE) x → PyData.eqv d x = false) → Q (.ref r') H'
def sp_law (K : PySem.W.Frag) : Sp := sp1 fun a H Q => ∃ (sa : Addr) (ns : List Int), a = .ref sa ∧ SqL K H sa (ns.map V.int) ∧ ns.length ≤ 63 ∧ ∀ H', Q (.bl true) H'
/-! ### what the law needs -/
theorem lc_dwE {K : PySem.W.Frag} {g : TG} {σ : L2.St} {te : TE} {vs : List Nat} {Q : VK} {Da st sc : Addr} {ns : List Int} {H0 : Hp} {lo : Int} {n : Nat} (d0 : Dw K st sc ns H0) (hD : H0 Da = none) (hn : n ≤ 1000)
    (hs : ∀ (i : Nat) (H2 : Hp) (C : VK) (E : Hp → Prop), i < n → Kp st H0 H2 → Dw K st sc ns H2 → (∀ p e H3, Kp st H2 H3 → Dw K st sc ns H3 → (∀ k, 0 ≤ e.f k) → Ent K (hid [st] H3) true p e → C (.ref p) H3) →
      g (.int (lo + i)) (wipe σ vs) H2 fun σ2 H2 => wipe σ2 vs = wipe σ vs ∧ tYes σ2 H2 fun b H3 => if b = true then te σ2 H3 C else E H3)
    (hd : ∀ (H : Hp) (ps : List Addr) (es : List En), Kp st H0 H → Dw K st sc ns H → H Da = some (.lst (ps.map V.ref)) → es.length = n → Ents K (hid [st] H) true ps es → (∀ e ∈ es, ∀ k, 0 ≤ e.f k) → Q (.ref Da) H) : LcB (Itr lo n) g tYes te vs σ Da H0 Q := by
  have nD := d0.free hD
  refine lc_rng (fun i H2 => Kp st H0 H2 ∧ Dw K st sc ns H2 ∧ ∃ (ps : List Addr) (es : List En), H2 Da = some (.lst (ps.map V.ref)) ∧ es.length = i ∧ Ents K (hid [st] H2) true ps es ∧ ∀ e ∈ es, ∀ k, 0 ≤ e.f k) ⟨Kp.new hD, d0.same (same_new hD), [], [], upd_same, rfl, .nil, fun _ he => by cases he⟩ (fun i H2 hi p => ?_) (fun H2 p => ?_)
  · obtain ⟨k4, d4, ps, es, e4, l4, p4, n4⟩ := p
    refine hs i H2 _ _ hi k4 d4 fun p e H3 k5 d5 f5 hE => ?_
    have e5 := k5 _ _ nD e4
    have lp := paired_len p4
    have nm : Da ∉ [st] := fun m => nD (List.mem_singleton.mp m)
    have e6 : hid [st] H3 Da = some (.lst (ps.map V.ref)) := by rw [hid_at nm]; exact e5
    refine ⟨_, e5, Nat.lt_of_le_of_lt (by rw [List.length_map]; omega : _ ≤ 1000) (by decide), (k4.trans k5).mut hD, Dw.mut d0 d5 hD (k4.trans k5), ps ++ [p], es ++ [e], by rw [upd_same, List.map_append]; rfl, by simp [l4], ?_, fun x hx => ?_⟩
    · rw [hid_upd nm]
      exact paired_snoc (paired_imp (fun _ _ q => (q.same (kp_same k5)).updE e6) p4) (hE.updE e6)
    · rcases List.mem_append.mp hx with h | h
      · exact n4 x h
      · rw [List.mem_singleton.mp h]; exact f5
  · obtain ⟨k4, d4, ps, es, e4, l4, p4, n4⟩ := p
    exact hd H2 ps es k4 d4 e4 l4 p4 n4
theorem rsn_un {g : En} : ∀ {ds ds' : List PyData} {es : List En}, Paired (fun d e => Rsn e g d) ds es → Paired (fun d e => Rsn e g d) ds' es → ds = ds'
  | _, _, _, .nil, .nil => rfl
  | _, _, _, .cons a b, .cons a' b' => by rw [a.un a', rsn_un b b']
theorem rws_ds {K : PySem.W.Frag} {H : Hp} {g : En} : ∀ {vs : List V} {es : List En}, Rws K H vs es g → ∃ ds, DpAll K H vs ds ∧ Paired (fun d e => Rsn e g d) ds es
  | _, _, .nil => ⟨[], .nil, .nil⟩
  | _, _, .cons ⟨d, h1, h2⟩ b => by
    obtain ⟨ds, q1, q2⟩ := rws_ds b
    exact ⟨d :: ds, .cons h2 q1, .cons h1 q2⟩
theorem rsn_all {g : En} : ∀ {ds : List PyData} {es : List En}, Paired (fun d e => Rsn e g d) ds es → PyData.plainAll ds = true ∧ PyData.depthAll ds ≤ 5 ∧ PyData.eqvAll ds ds = true
  | _, _, .nil => ⟨by simp [PyData.plainAll], by simp [PyData.depthAll], by simp [PyData.eqvAll]⟩
  | _, _, .cons a b => by
    obtain ⟨h1, h2, h3⟩ := a.plain
    obtain ⟨q1, q2, q3⟩ := rsn_all b
    exact ⟨by rw [PyData.plainAll, h1, q1]; rfl, by rw [PyData.depthAll]; omega, by rw [PyData.eqvAll, h3, q3]; rfl⟩
/-- two papers of reasons are one -/
theorem pap_ne {K : PySem.W.Frag} {H : Hp} {Q : VK} {r w r2 w2 : Addr} {i i2 : Nat} {vs vs2 : List V} {es : List En} (h : Pap K H r w i vs es) (g : Pap K H r2 w2 i2 vs2 es) (q : Q (.bl false) H) : rNeP K (.ref r) (.ref r2) H Q := by
  have e := h.b.un g.b
  subst e
  obtain ⟨ds, a1, b1⟩ := rws_ds h.v
  obtain ⟨ds2, a2, b2⟩ := rws_ds g.v
  have e := rsn_un b1 b2
  subst e
  obtain ⟨p1, p2, p3⟩ := rsn_all b1
  refine e_nePV (d := .tuple [.int i, .tuple ds]) (e := .tuple [.int i, .tuple ds]) (.tup h.r (.cons (.int _) (.cons (.tup h.w a1) .nil))) (.tup g.r (.cons (.int _) (.cons (.tup g.w a2) .nil))) (by simp [PyData.plain, PyData.plainAll, p1]) (by simp [PyData.plain, PyData.plainAll, p1]) ?_ (b := true) (by simp [PyData.eqv, PyData.eqvAll, p3]) q
  simp [PyData.depth, PyData.depthAll]
  omega
theorem alk_sym {e g : En} (h : alk e g = true) : alk g e = true := by
  unfold alk at *
  simp only [Bool.and_eq_true, beq_iff_eq, decide_eq_true_eq] at *
  exact ⟨h.1.symm, h.2.symm⟩
theorem bst_kd {es : List En} {b : Nat} (h : Bst es b) : kdL es b = kdL es (mxI (kdL es) es.length) := kq_tr h.2.1
theorem all_tt (n : Nat) : ((List.range n).map fun _ => true).all id = true := by simp
theorem all_ff {n j : Nat} (h : j < n) : ((List.range n).map fun i => decide (i ≠ j)).all id = false := by
  rw [List.all_eq_false]
  exact ⟨false, List.mem_map.mpr ⟨j, List.mem_range.mpr h, by simp⟩, by simp⟩
theorem jdg_ok {K : PySem.W.Frag} {H : Hp} {a w : Addr} {b k : Nat} {vs : List V} {es : List En} (hw : SqT K H w vs) (hv : Rws K H vs es (es.getD b dE)) (hB : Bst es b) (al : alk (es.getD k dE) (es.getD b dE) = true) (hk : k < es.length)
    (he : PyData.eqv (kdL es k) (kdL es (mxI (kdL es) es.length)) = true) (ha : SqT K H a [.int k, .ref w]) : Jdg K H es (winE es) (.ref a) true := by
  have hl := paired_len hv
  have := Jdg.rw (eg := winE es) ha hk hw hl he (enEq_self _) (fun _ => true) fun i v hi => by
    obtain ⟨e, h1, d, h2, h3⟩ := paired_get hv i v hi
    rw [getD_of h1]
    refine ⟨d, h3, .inl ⟨rfl, h2.to (alk_sym al) ?_⟩⟩
    have e1 : kdL es k = kdL es b := (kq_tr he).trans (bst_kd hB).symm
    show PyData.eqv (kdL es b) (kdL es k) = true
    rw [e1]
    exact kdE_self _
  rw [all_tt] at this
  exact this
theorem Jdg.same {K : PySem.W.Frag} {H H' : Hp} {es : List En} {eg : En} {v : V} {t : Bool} (h : Jdg K H es eg v t) (s : Same H H') : Jdg K H' es eg v t := by
  cases h with
  | non => exact .non
  | int i => exact .int i
  | lst h => exact .lst (s _ _ h)
  | len h n => exact .len (same_tup s h) n
  | bl h => exact .bl (same_tup s h)
  | ix h n => exact .ix (same_tup s h) n
  | rl h n q => exact .rl (same_tup s h) n (s _ _ q)
  | rn h n q l => exact .rn (same_tup s h) n (same_tup s q) l
  | ky h n q l e => exact .ky (same_tup s h) n (same_tup s q) l e
  | ot h n q l e o => exact .ot (same_tup s h) n (same_tup s q) l e o
  | rw h n q l e o t ht => exact .rw (same_tup s h) n (same_tup s q) l e o t fun i v z => (ht i v z).same s
theorem ent_hid {K : PySem.W.Frag} {H : Hp} {p : Bool} {a st : Addr} {e : En} {l : List V} (h : Ent K H p a e) (e0 : H st = some (.lst l)) : Ent K (hid [st] H) p a e := by
  have n : ∀ d ∈ [st], NT H d := fun d hd => by rw [List.mem_singleton.mp hd]; exact nt_lst e0
  obtain ⟨dx, v, m, b, fs, h1, h2, h3, h4, h5⟩ := h
  refine ⟨dx, v, m, b, fs, ?_, h2, ⟨vec_hid h3.1 n, fun z => pvec_hid n (h3.2 z)⟩, sqT_hid h4 n, sqT_hid h5 n⟩
  rw [hid_at fun m => by rw [List.mem_singleton.mp m, e0] at h1; cases h1]
  exact h1
theorem pap_hid {K : PySem.W.Frag} {D : List Addr} {H : Hp} {r w : Addr} {i : Nat} {vs : List V} {es : List En} (n : ∀ d ∈ D, NT H d) (h : Pap K H r w i vs es) : Pap K (hid D H) r w i vs es :=
  ⟨sqT_hid h.r n, sqT_hid h.w n, h.b, paired_imp (fun _ _ ⟨d, a, b⟩ => ⟨d, a, dp_hid n b a.nl⟩) h.v⟩
local macro_rules | `(tactic| walk_at "dr") => `(tactic| first
  | assumption
  | exact Dr.same (by assumption) (same_new (by assumption))
  | exact Dr.same (Dr.same (by assumption) (same_new (by assumption))) (same_new (by assumption)))
local macro_rules | `(tactic| walk_at "ar") => `(tactic| first | omega | (simp only [List.length_cons, List.length_nil, List.length_map, List.length_append]; omega) | (simp only [List.length_cons, List.length_nil, List.length_map, List.length_append] at *; omega) | decide | assumption)
local macro_rules | `(tactic| walk_at "sl") => `(tactic| first
  | exact Dr.seq (by assumption)
  | assumption
  | exact SqL.of (by assumption)
  | exact SqL.of upd_same)
local macro_rules | `(tactic| walk_at "slt") => `(tactic| first
  | assumption
  | exact SqT.of (by assumption)
  | exact SqT.of upd_same)
local macro_rules | `(tactic| walk_at "size") => `(tactic| first
  | assumption
  | (refine sz_of ?_; first | decide | omega | (simp only [List.length_cons, List.length_nil, List.length_map, List.length_append] at *; omega)))
local macro_rules | `(tactic| walk_at "seq") => `(tactic| first
  | assumption
  | exact .inl (Dr.seq (by assumption))
  | exact .inl (by assumption)
  | exact .inl (SqL.of (by assumption))
  | exact .inr (by assumption)
  | exact .inr (SqT.of (by assumption)))
local macro_rules | `(tactic| walk_at "cond") => `(tactic| first
  | ((with_reducible show CMul _ _); first | exact .inr ⟨by decide, by decide⟩ | exact .inl ⟨by decide, by decide⟩ | exact .inr ⟨by omega, by omega⟩ | exact .inl ⟨by omega, by omega⟩)
  | ((with_reducible show CDivW _ _); first | exact ⟨by decide, by decide⟩ | exact wide_div (b := 60) (by omega) (by omega) (by decide) (by decide))
  | ((with_reducible show CDiv _ _); first | exact ⟨by decide, by decide⟩ | exact ⟨by omega, by omega⟩)
  | ((with_reducible show CPow _ _); exact ⟨by decide, by decide, by decide⟩)
  | (show (0 : Int) < _; first | decide | omega)
  | (show (0 : Int) ≤ _; first | decide | omega))
local macro_rules | `(tactic| walk_at "st1") => `(tactic| first
  | ((with_reducible show tVar _ _ _ _); refine e_var rfl ?_)
  | ((with_reducible show tC _ _ _ _); refine e_c ?_)
  | ((with_reducible show tOp _ _ _ _ _ _); refine e_op ?_)
  | ((with_reducible show rI0 _ _ _ _ _); refine e_I0 ?_)
  | ((with_reducible show rI _ _ _ _ _ _); refine e_I (by walk_at "cond") ?_)
  | ((with_reducible show rEq (V.int _) (V.int _) _ _); refine e_eqI ?_)
  | ((with_reducible show rNe (V.int _) (V.int _) _ _); refine e_neI ?_)
  | ((with_reducible show rEq (V.str _) (V.str _) _ _); refine e_eqS ?_)
  | ((with_reducible show rNe (V.str _) (V.str _) _ _); refine e_neS ?_)
  | ((with_reducible show rEq (V.bl _) (V.bl _) _ _); refine e_eqB ?_)
  | ((with_reducible show rNe (V.bl _) (V.bl _) _ _); refine e_neB ?_)
  | ((with_reducible show rEq _ _ _ _); refine e_eq rfl ?_)
  | ((with_reducible show rNe _ _ _ _); refine e_ne rfl ?_)
  | ((with_reducible show tTest _ _ _ _); refine e_test ?_)
  | ((with_reducible show tB _ _ _ _); refine e_B ?_)
  | ((with_reducible show ∃ k, V.bl _ = V.bl k ∧ _); refine e_ex ?_)
  | ((with_reducible show ∃ k, V.int _ = V.int k ∧ _); refine e_exI ?_)
  | ((with_reducible show tAnd _ _ _ _ _); refine e_and ?_)
  | ((with_reducible show tOr _ _ _ _ _); refine e_or ?_)
  | ((with_reducible show tNot _ _ _ _); refine e_not ?_)
  | ((with_reducible show tYes _ _ _); refine e_yes ?_))
local macro_rules | `(tactic| walk_at "st2") => `(tactic| first
  | ((with_reducible show tAndV _ _ _ _ _); refine e_andV ?_)
  | ((with_reducible show tOrV _ _ _ _ _); refine e_orV ?_)
  | ((with_reducible show tNotV _ _ _ _); refine e_notV ?_)
  | ((with_reducible show tIf _ _ _ _ _ _); refine e_if ?_)
  | ((with_reducible show tChain _ _ _ _ _ _ _ _); refine e_chain ?_)
  | ((with_reducible show tSeq _ _ _ _ _); refine e_seq ?_)
  | ((with_reducible show tNext _ _ _); refine e_next ?_)
  | ((with_reducible show tBreak _ _ _); refine e_break ?_)
  | ((with_reducible show tCont _ _ _); refine e_cont ?_)
  | ((with_reducible show tDrop _ _ _ _); refine e_drop ?_)
  | ((with_reducible show tRet _ _ _ _); refine e_ret ?_)
  | ((with_reducible show tRetN _ _ _); refine e_retN ?_)
  | ((with_reducible show tIfS _ _ _ _ _ _); refine e_ifS ?_)
  | ((with_reducible show tAsg _ _ _ _ _); refine e_asg ?_)
  | ((with_reducible show gName _ _ _ _ _); refine e_name ?_)
  | ((with_reducible show gSub _ _ _ _ _ _ _); refine e_sub ?_)
  | ((with_reducible show tNil _ _ _); refine e_nil ?_)
  | ((with_reducible show tCons _ _ _ _ _); refine e_cons ?_)
  | ((with_reducible show tCall _ _ _ _ _ _ _); refine e_call ?_)
  | ((with_reducible show tCB _ _ _ _ _); refine e_CB ?_)
  | ((with_reducible show tTup _ _ _ _); refine e_tup ?_)
  | ((with_reducible show tLst _ _ _ _); refine e_lst ?_)
  | ((with_reducible show tSl _ _ _ _ _ _ _); refine e_sl ?_)
  | ((with_reducible show tNoPart _ _ _); refine e_noP ?_)
  | ((with_reducible show tPart _ _ _ _); refine e_part ?_)
  | ((with_reducible show tBM _ _ _ _ _ _ _ _); refine e_bm ?_)
  | ((with_reducible show tFor _ _ _ _ _ _); refine e_for ?_)
  | ((with_reducible show iList _ _ _ _ _); refine e_iList ?_)
  | ((with_reducible show iTup _ _ _ _ _); refine e_iTup ?_)
  | ((with_reducible show iStr _ _ _ _); refine e_iStr ?_)
  | ((with_reducible show iRng1 _ _ _ _); refine e_iRng1 ?_)
  | ((with_reducible show iRng2 _ _ _ _); refine e_iRng2 ?_)
  | ((with_reducible show (∃ i', [V.int _] = [V.int i'] ∧ _) ∨ ∃ k, [V.int _] = [V.bl k] ∧ _); refine Or.inl ⟨_, rfl, ?_⟩)
  | ((with_reducible show ∃ p ys, [V.ref _] = [V.ref p] ∧ (SqL _ _ p ys ∨ SqT _ _ p ys) ∧ _); refine ⟨_, _, rfl, (by walk_at "seq"), ?_⟩)
  | ((with_reducible show tLc _ _ _ _ _ _ _ _); refine e_lc ?_)
  | ((with_reducible show tM0 _ _ _ _ _); refine e_m0 ?_)
  | ((with_reducible show tM1 _ _ _ _ _ _); refine e_m1 ?_)
  | ((with_reducible show ∃ k, V.str _ = V.str k ∧ _); refine e_exS ?_)
  | ((with_reducible show ∃ k, V.ref _ = V.ref k ∧ (∃ xs, SqL _ _ k xs) ∧ _); refine e_exR (by walk_at "sl") ?_)
  | ((with_reducible show ∃ k, V.ref _ = V.ref k ∧ (∃ xs, SqT _ _ k xs) ∧ _); refine e_exRT (by walk_at "slt") ?_)
  | ((with_reducible show ∃ j, [V.int _] = [V.int j] ∧ _ ≤ j ∧ j < _ ∧ _); refine e_rng1 (by omega) (by omega) ?_)
  | ((with_reducible show ∃ i j, [V.int _, V.int _] = [V.int i, V.int j] ∧ _ ∧ _); refine e_rng2 (by omega) ?_)
  | ((with_reducible show ∃ z', [V.str _] = [V.str z'] ∧ z'.length ≤ sizeLine ∧ _); refine ⟨_, rfl, (by walk_at "size"), ?_⟩)
  | ((with_reducible show (∃ a, V.str _ = V.str a) ∧ _); refine ⟨⟨_, rfl⟩, ?_⟩)
  | ((with_reducible show rSlS (V.str _) _ _ _ _); refine e_slS (by walk_at "size") ?_)
  | ((with_reducible show wipe _ _ = wipe _ _ ∧ _); refine ⟨rfl, ?_⟩)
  | ((with_reducible show List.length _ ≤ sizeLine ∧ ∀ p, _); refine ⟨(by walk_at "size"), fun p hp => ?_⟩)
  | ((with_reducible show rIsi _ _ _ _); first | refine isi_bb ?_ | refine isi_ib ?_ | refine isi_bi ?_ | refine isi_ii ?_ | refine isi_tt (by assumption) ?_ | refine isi_ll (by assumption) ?_)
  | ((with_reducible show spDraw _ _ _ _ _); refine ⟨_, _, _, rfl, _, _, _, _, rfl, rfl, rfl, (by walk_at "dr"), (by walk_at "ar"), (by walk_at "ar"), ?_⟩)
  | ((with_reducible show tUn _ _ _ _ _); refine e_un ?_)
  | ((with_reducible show rU _ (V.int _) _ _); refine e_U ?_)
  | ((with_reducible show ∃ i, [V.int _] = [V.int i] ∧ _); refine ⟨_, rfl, ?_⟩)
  | ((with_reducible show gTup _ _ _ _ _ _ _); refine ⟨_, _, rfl, (by walk_at "slt"), rfl, ?_⟩)
  | ((with_reducible show gCons _ _ _ _ _ _); refine ⟨_, _, rfl, ?_⟩)
  | ((with_reducible show gNil _ _ _ _); refine ⟨rfl, ?_⟩)
  | ((with_reducible show tAug _ _ _ _ _ _); refine e_aug rfl ?_)
  | ((with_reducible show if true = true then _ else _); refine i_T ?_)
  | ((with_reducible show if false = true then _ else _); refine i_F ?_))
local macro_rules | `(tactic| walk_at "st") => `(tactic| first | walk_at "st1" | walk_at "st2" | (dsimp only [List.append_nil, List.nil_append, List.cons_append, Bool.not_true, Bool.not_false]))
local macro_rules | `(tactic| walk_at "go") => `(tactic| repeat walk_at "st")
local macro_rules | `(tactic| walk_at "st") => `(tactic| first
  | ((with_reducible show iRevR _ _ _ _); refine e_iRevR ?_)
  | ((with_reducible show tRg1 _ _ _ _); refine e_rg1 ?_)
  | ((with_reducible show tRg2 _ _ _ _ _); refine e_rg2 ?_)
  | ((with_reducible show iEnum _ _ _ _ _); refine e_iEnum ?_)
  | ((with_reducible show iEnumT _ _ _ _ _); refine e_iEnumT ?_)
  | ((with_reducible show iRng3 _ _ _ _); refine e_iRng3 ?_)
  | ((with_reducible show ∃ p ys, [V.ref _] = [V.ref p] ∧ SqL _ _ p ys ∧ _); refine ⟨_, _, rfl, (by walk_at "sl"), ?_⟩)
  | ((with_reducible show ∃ p ys, [V.ref _] = [V.ref p] ∧ SqT _ _ p ys ∧ _); refine ⟨_, _, rfl, (by walk_at "slt"), ?_⟩)
  | ((with_reducible show tyV _ "list" (V.ref _) _ ∧ _); refine ⟨.inl ⟨rfl, _, (by walk_at "sl")⟩, ?_⟩)
  | ((with_reducible show ∃ a b, V.bl _ = V.bl a ∧ V.bl _ = V.bl b ∧ _); refine ⟨_, _, rfl, rfl, ?_⟩)
  | ((with_reducible show ∃ c, V.bl _ = V.bl c ∧ _); refine ⟨_, rfl, ?_⟩)
  | ((with_reducible show if (!true) = true then _ else _); refine i_F ?_)
  | ((with_reducible show if (!false) = true then _ else _); refine i_T ?_))
local macro_rules | `(tactic| walk_at "cond") => `(tactic| assumption)
local macro_rules | `(tactic| walk_at "st") => `(tactic| first
  | ((with_reducible show tDGet _ _ _ _ _); refine e_tDGet ?_)
  | ((with_reducible show tDGet2 _ _ _ _ _ _); refine e_tDGet2 ?_)
  | ((with_reducible show sDPut _ _ _ _ _ _); refine e_sDPut ?_)
  | ((with_reducible show iEnumZ _ _ _ _ _); refine e_enumZ ?_)
  | ((with_reducible show iZipLT _ _ _ _ _); refine e_zipLT ?_)
  | ((with_reducible show rIsi _ _ _ _); first | refine isi_nt ?_ | refine isi_it ?_ | refine isi_tq (by assumption) ?_ | refine isi_lt (by assumption) ?_))
local macro_rules | `(tactic| walk_at "ent") => `(tactic| first
  | assumption
  | exact Ent.same (by assumption) (by assumption))
local macro_rules | `(tactic| walk_at "st") => `(tactic| first
  | ((with_reducible show tMake _ _ _ _ _ _ _ _); refine e_tMake ?_)
  | ((with_reducible show tFld _ _ _ _ _ _); refine e_tFld ?_)
  | ((with_reducible show sFld _ _ _ _ _ _ _); refine e_sFld ?_)
  | ((with_reducible show tTupP _ _ _ _); refine e_tupP ?_)
  | ((with_reducible show tJs (_ :: _) _ _ _ _); refine e_js ?_)
  | ((with_reducible show tJs [] _ _ _ _); refine e_js0 ?_)
  | ((with_reducible show tFmt _ _ _ _); refine e_fmt ?_)
  | ((with_reducible show tMaxF _ _ _ _ _ _); refine e_maxF ?_)
  | ((with_reducible show ∃ a C dx fs v, V.ref _ = V.ref a ∧ _); first
    | refine f_name (by assumption) (by walk_at "ent") ?_
    | refine f_height (by assumption) (by walk_at "ent") ?_
    | refine f_deleted (by assumption) (by walk_at "ent") ?_
    | refine f_time (by assumption) (by walk_at "ent") ?_
    | refine f_vector (by assumption) (by walk_at "ent") fun v hv => ?_
    | refine f_maker (by assumption) (by walk_at "ent") fun v hv => ?_
    | refine f_blocks (by assumption) (by walk_at "ent") fun v hv => ?_))
section
variable {P : Program} {w : World} {K : PySem.W.Frag} {mg : Str → Option Value} {base : Heap}
theorem ok_count_of (T : Txt K mg)   {f : Addr} {fd : FuncData} (F : FnP K "count_of" s_count_of f fd) : FnOk P w K mg base CX0 1 f fd ["vector", "device"] (sp_count_of K) := by
  refine F.ok sc_count_of (fun vs H Q E h => ?_) (fun cdv A outer s H vs Q E hr h => ?_)
  · obtain ⟨_, _, rfl, _⟩ := h
    rfl
  · have S := sc_count_of
    refine ⟨_, PSs.nox (pss_cons (ps_for PassesOwn.never rfl (pi_tup (pv 0)) (pg_tup rfl (pgs_cons (pg_name (i := 2) S.nd rfl (by first | exact .inl rfl | exact .inr rfl)) (pgs_cons (pg_name (i := 3) S.nd rfl (by first | exact .inl rfl | exact .inr rfl)) pgs_nil)))
    (pss_one (ps_if (pt_cmpR op_eq (pv 2) (pv 1) (nomark _))
      (pss_one (ps_ret (pv 3)))
      pss_nil)))
    (pss_one (ps_ret pe_int))), ?_⟩
    try dsimp only [cxOf, Cx.nox]
    obtain ⟨_, _, rfl, a, v, d, rfl, rfl, ⟨ps, hS, hP⟩, k⟩ := h
    walk_at "go"
    refine for_vec hS hP (fun pre σ H1 => (∃ v2 v3, σ = [some (.ref a), some (.int d), v2, v3]) ∧ H1 = H ∧ ∀ c ∈ pre, ¬ c.1 = d) ⟨⟨_, _, rfl⟩, rfl, fun c hc => by cases hc⟩ (fun pre σ H1 q => by rw [q.2.1]; exact Same.refl H) (fun pre c post T σ H1 e q hT => ?_) (fun σ H1 q => ?_)
    · obtain ⟨⟨v2, v3, rfl⟩, rfl, q⟩ := q
      walk_at "go"
      refine i_d (fun h1 => ?_) (fun h1 => ?_)
      · walk_at "go"
        rw [e, cnt_app_out q] at k
        have e2 : cnt (c :: post) d = c.2 := by show (if c.1 = d then _ else _) = _; rw [if_pos h1]
        rw [e2] at k
        exact k
      · walk_at "go"
        exact ⟨⟨_, _, rfl⟩, rfl, fun x hx => by
          rcases List.mem_append.mp hx with hx | hx
          · exact q x hx
          · rw [List.mem_singleton.mp hx]; exact h1⟩
    · obtain ⟨⟨v2, v3, rfl⟩, rfl, q⟩ := q
      walk_at "go"
      have e2 : cnt v d = 0 := by
        rw [← List.append_nil v, cnt_app_out q]; rfl
      rw [e2] at k
      exact k
theorem ok_join (T : Txt K mg)  (c_vector : Cal P w K mg base 1 "_vector" (sp_vector K)) {f : Addr} {fd : FuncData} (F : FnP K "join" s_join f fd) : FnOk P w K mg base CX0 2 f fd ["first", "second"] (sp_join K) := by
  refine F.ok sc_join (fun vs H Q E h => ?_) (fun cdv A outer s H vs Q E hr h => ?_)
  · obtain ⟨_, _, rfl, _⟩ := h
    rfl
  · have S := sc_join
    refine ⟨_, PSs.nox (pss_cons (ps_set (i := 2) S.nd rfl (by first | exact .inl rfl | exact .inr rfl) (pe_callTy (call_dictPT rfl) (by rfl) T.f_dict (by first | rfl | decide +kernel) (pa_cons (pv 0) pa_nil)))
    (pss_cons (ps_for PassesOwn.never rfl (pi_tup (pv 1)) (pg_tup rfl (pgs_cons (pg_name (i := 3) S.nd rfl (by first | exact .inl rfl | exact .inr rfl)) (pgs_cons (pg_name (i := 4) S.nd rfl (by first | exact .inl rfl | exact .inr rfl)) pgs_nil)))
    (pss_one (ps_dput (hu_of hr) (pv 2) (pv 3) (pe_callB (call_max2 rfl) (by rfl) T.f_max (by first | rfl | decide +kernel) (pa_cons (pv 4) (pa_cons (pe_dget2 (hu_of hr) (pv 2) (pv 3) pe_int ⟨by rfl, by rfl, by rfl, by rfl⟩) pa_nil))) rfl)))
    (pss_one (ps_ret (pe_c c_vector hr (by decide) (by rfl) (pa_cons (pv 2) pa_nil)))))), ?_⟩
    try dsimp only [cxOf, Cx.nox]
    obtain ⟨_, _, rfl, a, b, f, g, rfl, rfl, hf, hg, ⟨ps, hS, hP⟩, ⟨qs, hT, hR⟩, k⟩ := h
    walk_at "go"
    obtain ⟨m0, em, gm, lm, cm⟩ := dict_made hf
    refine ⟨a, ps, kvl (made f), rfl, hS, prs_kvl hP, fun D hD => ?_⟩
    rw [em]
    have sD := same_new (o := .dK (kvl m0)) hD
    have hT0 := same_tup sD hT
    walk_at "go"
    refine for_vec hT hR (fun pre σ H1 => (∃ v3 v4, σ = [some (.ref a), some (.ref b), some (.ref D), v3, v4]) ∧ Same H H1 ∧ ∃ m, H1 D = some (.dK (kvl m)) ∧ Good m ∧ m.length ≤ 9 + pre.length ∧ ∀ k : Nat, k < 9 → cnt m (((k : Nat) : Int) + 1) = told mx pre (((k : Nat) : Int) + 1) (f k)) ⟨⟨_, _, rfl⟩, sD, m0, upd_same, gm, by simpa using lm, fun k hk => cm k hk⟩ (fun pre σ H1 q => q.2.1) (fun pre c post T σ H1 e q hT => ?_) (fun σ H1 q => ?_)
    · obtain ⟨⟨v3, v4, rfl⟩, s1, m, e1, g1, l1, c1⟩ := q
      have hc : c ∈ made g := by rw [e]; simp
      obtain ⟨h1, h9, h0⟩ := made_rg c hc
      have lp : pre.length ≤ 9 := by
        have := made_len g
        rw [e, List.length_append, List.length_cons] at this
        omega
      walk_at "go"
      refine ⟨D, rfl, .inl ⟨_, .inl e1⟩, ?_⟩
      walk_at "go"
      refine dg_or e1 fun o eo => ?_
      rw [eo]
      walk_at "go"
      refine ⟨_, _, rfl, ?_⟩
      walk_at "go"
      refine dp_put e1 (by omega) ?_
      refine ⟨⟨_, _, rfl⟩, Same.mut s1 hD, dput m c.1 (mx c.2 (cnt m c.1)), upd_same, good_dput g1 h1 h9 ?_, ?_, fun k hk => ?_⟩
      · unfold mx; split <;> omega
      · have := dput_len m c.1 (mx c.2 (cnt m c.1))
        rw [List.length_append]
        simp
        omega
      · rw [cnt_dput, told_app, told_one]
        by_cases hk2 : c.1 = ((k : Nat) : Int) + 1
        · rw [if_pos hk2, if_pos hk2, hk2, c1 k hk]
        · rw [if_neg hk2, if_neg hk2, c1 k hk]
    · obtain ⟨⟨v3, v4, rfl⟩, s1, m, e1, g1, l1, c1⟩ := q
      have := made_len g
      walk_at "go"
      refine ⟨_, rfl, D, m, rfl, e1, g1, by omega, fun r H' s2 hv => ?_⟩
      walk_at "go"
      refine k r H' (s1.trans s2) ?_
      rw [made_congr (g := fun k => cnt m (((k : Nat) : Int) + 1)) fun k hk => by rw [c1 k hk, max_made hf hk]]
      exact hv
theorem ok_vector (T : Txt K mg)   {f : Addr} {fd : FuncData} (F : FnP K "_vector" s_vector f fd) : FnOk P w K mg base CX0 1 f fd ["counts"] (sp_vector K) := by
  refine F.ok sc_vector (fun vs H Q E h => ?_) (fun cdv A outer s H vs Q E hr h => ?_)
  · obtain ⟨_, rfl, _⟩ := h
    rfl
  · have S := sc_vector
    refine ⟨_, PSs.nox (pss_one (ps_ret (pe_callTy call_tupleF (by rfl) T.f_tuple (by first | rfl | decide +kernel) (pa_cons (pe_lc (own := [("device", 1)]) (g := gName 1) (tt := tYes) rfl S.nd (pi_list (pe_callB (call_sortedDI rfl) (by rfl) T.f_sorted (by first | rfl | decide +kernel) (pa_cons (pv 0) pa_nil))) (blkOk_by (N := N_vector) (sc := defScope s_vector) (by decide +kernel)) (fun _ _ _ _ _ => (pg_name (i := 1) S.nd rfl (by first | exact .inl rfl | exact .inr rfl))) (fun _ _ _ _ _ => pts_nil) (fun _ _ _ _ _ => (pe_tup (pa_cons (pv 1) (pa_cons (pe_dget (hu_of hr) (pv 0) (pv 1) (fun _ _ => rfl)) pa_nil))))) pa_nil)))), ?_⟩
    try dsimp only [cxOf, Cx.nox]
    obtain ⟨_, rfl, D, m, rfl, hD, hm, hl, k⟩ := h
    walk_at "go"
    have em : (kvl m).map (·.1) = (m.map (·.1)).map Sum.inl := by unfold kvl; rw [List.map_map, List.map_map]; rfl
    refine ⟨D, kvl m, m.map (·.1), rfl, .inl hD, em, by rw [List.length_map]; omega, fun ys p hp hs hpn => ?_⟩
    have s1 := same_new (o := .lst (ys.map V.int)) hpn
    have yl : ys.length = m.length := by rw [hp.length_eq, List.length_map]
    have p1 : (upd H p (.lst (ys.map V.int))) p = some (.lst (ys.map V.int)) := upd_same
    generalize upd H p (.lst (ys.map V.int)) = H1 at *
    have d1 := s1 _ _ hD
    walk_at "go"
    intro E hE
    refine lc_list (xs := ys.map V.int) (fun i H2 => Same H1 H2 ∧ ∃ ps : List Addr, H2 E = some (.lst (ps.map V.ref)) ∧ ps.length = i ∧ Prx H2 ps ((ys.take i).map fun y => (y, cnt m y))) ⟨same_new hE, [], upd_same, rfl, .nil⟩ (fun i H2 _ q => SqL.of (q.1 _ _ p1)) (fun i x H2 hx q => ?_) (fun H2 q => ?_)
    · obtain ⟨s2, ps, e2, l2, q2⟩ := q
      rw [List.getElem?_map] at hx
      obtain ⟨y, hy, rfl⟩ := Option.map_eq_some_iff.mp hx
      have hm2 : ∃ c ∈ m, c.1 = y := by
        have := hp.mem_iff.mp (List.mem_of_getElem? hy)
        exact List.mem_map.mp this
      have hi := (List.getElem?_eq_some_iff.mp hy).1
      walk_at "go"
      refine dg_some (s2 _ _ d1) hm2 ?_
      walk_at "go"
      rename_i t ht
      have s3 := same_new (o := .tup [.int y, .int (cnt m y)]) ht
      refine ⟨_, s3 _ _ e2, Nat.lt_of_le_of_lt (by rw [List.length_map]; omega : _ ≤ 1000000) (by decide), Same.mut (s2.trans s3) hE, ps ++ [t], by rw [upd_same, List.map_append]; rfl, by simp [l2], ?_⟩
      rw [List.take_add_one, hy]
      show Prx _ (ps ++ [t]) ((ys.take i ++ [y]).map _)
      rw [List.map_append]
      exact paired_snoc ((q2.same s3).upd (s3 _ _ e2)) (by
        have n : t ≠ E := fun z => by
          rw [z, e2] at ht
          cases ht
        show (upd _ E _) t = _
        rw [upd_ne n]; exact upd_same)
    · obtain ⟨s2, ps, e2, l2, q2⟩ := q
      walk_at "go"
      intro l H' hl2 s3 hp2 _
      refine k l H' ((s1.trans s2).trans s3) ⟨ps, hp2, ?_⟩
      rw [← vector_made hm hp hs]
      rw [List.length_map, List.take_length] at q2
      exact (q2.same s3).prs
theorem ok_counts_of (T : Txt K mg)  (c_count_of : Cal P w K mg base 1 "count_of" (sp_count_of K)) {f : Addr} {fd : FuncData} (F : FnP K "counts_of" s_counts_of f fd) : FnOk P w K mg base CX0 2 f fd ["vector"] (sp_counts_of K) := by
  refine F.ok sc_counts_of (fun vs H Q E h => ?_) (fun cdv A outer s H vs Q E hr h => ?_)
  · obtain ⟨_, rfl, _⟩ := h
    rfl
  · have S := sc_counts_of
    refine ⟨_, PSs.nox (pss_one (ps_ret (pe_callTy call_tupleF (by rfl) T.f_tuple (by first | rfl | decide +kernel) (pa_cons (pe_lc (own := [("device", 1)]) (g := gName 1) (tt := tYes) rfl S.nd (pi_range2 (by rfl) T.f_range (pa_cons pe_int (pa_cons pe_int pa_nil))) (blkOk_by (N := N_counts_of) (sc := defScope s_counts_of) (by decide +kernel)) (fun _ _ _ _ _ => (pg_name (i := 1) S.nd rfl (by first | exact .inl rfl | exact .inr rfl))) (fun _ _ _ _ _ => pts_nil) (fun _ _ _ _ _ => (pe_c c_count_of hr (by decide) (by rfl) (pa_cons (pv 0) (pa_cons (pv 1) pa_nil))))) pa_nil)))), ?_⟩
    try dsimp only [cxOf, Cx.nox]
    obtain ⟨_, rfl, a, f, rfl, hf, hv, k⟩ := h
    walk_at "go"
    intro D hD
    refine lc_map_rng hD (by decide) (fun i => .int (f i)) (fun i H2 C E hi s2 hC => ?_) (fun H2 s2 e2 => ?_)
    · have hi : i < 9 := hi
      walk_at "go"
      refine ⟨_, _, rfl, a, made f, _, rfl, rfl, hv.same s2, ?_⟩
      rw [show (1 + (i : Int)) = ((i : Nat) : Int) + 1 from by omega, cnt_made hf hi]
      exact hC H2 (Same.refl H2)
    · walk_at "go"
      intro l H' hl s3 hp _
      refine k l H' (s2.trans s3) ?_
      have e : (row9 f).map V.int = (List.range (10 - 1 : Int).toNat).map fun i => V.int (f i) := by unfold row9; rw [List.map_map]; rfl
      rw [e]
      exact hp.seq
theorem ok_Entry___init__ (T : Txt K mg)   {f : Addr} {fd : FuncData} (F : FunD K "__init__" "Entry.__init__" (defArgs s_Entry___init__) (defBody s_Entry___init__) (defScope s_Entry___init__) [] [] f fd) : FnOk P w K mg base CX0 1 f fd ["self", "name", "vector", "height", "maker", "deleted", "time", "blocks"] (sp_Entry___init__ K) := by
  refine F.ok sc_Entry___init__ (fun vs H Q E h => ?_) (fun cdv A outer s H vs Q E hr h => ?_)
  · obtain ⟨_, _, _, _, _, _, _, _, rfl, _⟩ := h
    rfl
  · have S := sc_Entry___init__
    refine ⟨_, PSs.nox (pss_cons (ps_fld (pv 0) (pv 1) rfl)
    (pss_cons (ps_fld (pv 0) (pv 2) rfl)
    (pss_cons (ps_fld (pv 0) (pv 3) rfl)
    (pss_cons (ps_fld (pv 0) (pv 4) rfl)
    (pss_cons (ps_fld (pv 0) (pv 5) rfl)
    (pss_cons (ps_fld (pv 0) (pv 6) rfl)
    (pss_one (ps_fld (pv 0) (pv 7) rfl)))))))), ?_⟩
    try dsimp only [cxOf, Cx.nox]
    obtain ⟨_, _, _, _, _, _, _, _, rfl, a, dx, rfl, ha, k⟩ := h
    walk_at "go"
    refine ⟨a, _, dx, _, rfl, ha, T.cl_Entry, T.no_Entry_name, lt_put (by decide), ?_⟩
    walk_at "go"
    refine ⟨a, _, dx, _, rfl, upd_same, T.cl_Entry, T.no_Entry_vector, lt_put (Nat.le_trans (len_put (n := 0) (Nat.le_refl 0)) (by decide)), ?_⟩
    walk_at "go"
    refine ⟨a, _, dx, _, rfl, upd_same, T.cl_Entry, T.no_Entry_height, lt_put (Nat.le_trans (len_put (len_put (n := 0) (Nat.le_refl 0))) (by decide)), ?_⟩
    walk_at "go"
    refine ⟨a, _, dx, _, rfl, upd_same, T.cl_Entry, T.no_Entry_maker, lt_put (Nat.le_trans (len_put (len_put (len_put (n := 0) (Nat.le_refl 0)))) (by decide)), ?_⟩
    walk_at "go"
    refine ⟨a, _, dx, _, rfl, upd_same, T.cl_Entry, T.no_Entry_deleted, lt_put (Nat.le_trans (len_put (len_put (len_put (len_put (n := 0) (Nat.le_refl 0))))) (by decide)), ?_⟩
    walk_at "go"
    refine ⟨a, _, dx, _, rfl, upd_same, T.cl_Entry, T.no_Entry_time, lt_put (Nat.le_trans (len_put (len_put (len_put (len_put (len_put (n := 0) (Nat.le_refl 0)))))) (by decide)), ?_⟩
    walk_at "go"
    refine ⟨a, _, dx, _, rfl, upd_same, T.cl_Entry, T.no_Entry_blocks, lt_put (Nat.le_trans (len_put (len_put (len_put (len_put (len_put (len_put (n := 0) (Nat.le_refl 0))))))) (by decide)), ?_⟩
    simp only [upd_upd]
    exact k
theorem ok_Entry___eq__ (T : Txt K mg)   {f : Addr} {fd : FuncData} (F : FunD K "__eq__" "Entry.__eq__" (defArgs s_Entry___eq__) (defBody s_Entry___eq__) (defScope s_Entry___eq__) [] [] f fd) : FnOk P w K mg base CX0 1 f fd ["self", "other"] (sp_Entry___eq__ K) := by
  refine F.ok sc_Entry___eq__ (fun vs H Q E h => ?_) (fun cdv A outer s H vs Q E hr h => ?_)
  · obtain ⟨_, _, rfl, _⟩ := h
    rfl
  · have S := sc_Entry___eq__
    refine ⟨_, PSs.nox (pss_one (ps_ret (pe_and (pe_callB call_isi (by rfl) T.f_isinstance (by first | rfl | decide +kernel) (pa_cons (pv 1) (pa_cons (pe_glob (v := V.ref (He.ga K "Entry")) (by rfl) T.g_Entry rfl) pa_nil))) (pe_and (pe_cmpR op_eq (pe_fld (pv 0) rfl) (pe_fld (pv 1) rfl) (nomark _)) (pe_and (pe_cmpR (op_eqP hr.units) (pe_fld (pv 0) rfl) (pe_fld (pv 1) rfl) (nomark _)) (pe_and (pe_cmpR op_eq (pe_fld (pv 0) rfl) (pe_fld (pv 1) rfl) (nomark _)) (pe_and (pe_cmpR (op_eqP hr.units) (pe_fld (pv 0) rfl) (pe_fld (pv 1) rfl) (nomark _)) (pe_and (pe_cmpR op_eq (pe_fld (pv 0) rfl) (pe_fld (pv 1) rfl) (nomark _)) (pe_and (pe_cmpR op_eq (pe_fld (pv 0) rfl) (pe_fld (pv 1) rfl) (nomark _)) (pe_one (pe_cmpR (op_eqP hr.units) (pe_fld (pv 0) rfl) (pe_fld (pv 1) rfl) (nomark _)))))))))))), ?_⟩
    try dsimp only [cxOf, Cx.nox]
    have t : ET K := ⟨T.cl_Entry, T.no_Entry_name, T.no_Entry_vector, T.no_Entry_height, T.no_Entry_maker, T.no_Entry_deleted, T.no_Entry_time, T.no_Entry_blocks⟩
    obtain ⟨_, _, rfl, a, p, e, rfl, hE, hy⟩ := h
    have ct := T.ct_Entry
    rcases hy with ⟨b, p2, g, rfl, hG, k⟩ | ⟨l, ys, rfl, hp, k⟩
    · obtain ⟨dy, _, _, _, gs, hb, _⟩ := id hG
      unfold enEq at k
      walk_at "go"
      refine ⟨.ref b, .ref _, _, _, true, rfl, .own _, .base (.ins hb T.cl_Entry ct.ha ct.hn ct.htk ct.hm), ct.own, ?_⟩
      walk_at "go"
      generalize decide (e.nm = g.nm) = d1 at k ⊢
      cases d1
      · walk_at "go"
        exact k
      walk_at "go"
      rename_i v1 w1 v2 w2
      refine e_eqPVV w1.1 w2.1 ?_
      walk_at "go"
      generalize decide (made e.f = made g.f) = d2 at k ⊢
      cases d2
      · walk_at "go"
        exact k
      walk_at "go"
      generalize decide (e.ht = g.ht) = d3 at k ⊢
      cases d3
      · walk_at "go"
        exact k
      walk_at "go"
      rename_i v3 w3 v4 w4
      have e4 : decide (e.mr = g.mr) = decide ([e.mr.1, e.mr.2] = [g.mr.1, g.mr.2]) := decide_eq_decide.mpr ⟨fun z => by rw [z], fun z => by
        injection z with z1 z2
        injection z2 with z2 z3
        exact Prod.ext z1 z2⟩
      rw [e4] at k
      refine e_eqPT (xs := [e.mr.1, e.mr.2]) (ys := [g.mr.1, g.mr.2]) w3 w4 ?_
      walk_at "go"
      generalize decide ([e.mr.1, e.mr.2] = [g.mr.1, g.mr.2]) = d4 at k ⊢
      cases d4
      · walk_at "go"
        exact k
      walk_at "go"
      generalize (e.dl == g.dl) = d5 at k ⊢
      cases d5
      · walk_at "go"
        exact k
      walk_at "go"
      generalize decide (e.tm = g.tm) = d6 at k ⊢
      cases d6
      · walk_at "go"
        exact k
      walk_at "go"
      rename_i v5 w5 v6 w6
      refine e_eqPT w5 w6 ?_
      walk_at "go"
      exact k
    · walk_at "go"
      refine ⟨.ref l, .ref _, _, _, false, rfl, .own _, .base (.lst hp), T.cq_Entry.lst, ?_⟩
      walk_at "go"
      exact k
theorem ok_alike (T : Txt K mg)   {f : Addr} {fd : FuncData} (F : FnP K "alike" s_alike f fd) : FnOk P w K mg base CX0 1 f fd ["first", "second"] (sp_alike K) := by
  refine F.ok sc_alike (fun vs H Q E h => ?_) (fun cdv A outer s H vs Q E hr h => ?_)
  · obtain ⟨_, _, rfl, _⟩ := h
    rfl
  · have S := sc_alike
    refine ⟨_, PSs.nox (pss_one (ps_ret (pe_and (pe_cmpR op_eq (pe_fld (pv 0) rfl) (pe_fld (pv 1) rfl) (nomark _)) (pe_one (pe_cmpR (op_eqP hr.units) (pe_fld (pv 0) rfl) (pe_fld (pv 1) rfl) (nomark _)))))), ?_⟩
    try dsimp only [cxOf, Cx.nox]
    have t : ET K := ⟨T.cl_Entry, T.no_Entry_name, T.no_Entry_vector, T.no_Entry_height, T.no_Entry_maker, T.no_Entry_deleted, T.no_Entry_time, T.no_Entry_blocks⟩
    obtain ⟨_, _, rfl, a, b, p, p2, e, g, rfl, rfl, hE, hG, k⟩ := h
    unfold alk at k
    walk_at "go"
    generalize (e.dl == g.dl) = d1 at k ⊢
    cases d1
    · walk_at "go"
      exact k
    walk_at "go"
    rename_i v1 w1 v2 w2
    refine e_eqPT w1 w2 ?_
    walk_at "go"
    exact k
theorem ok_key_of (T : Txt K mg)  (c_counts_of : Cal P w K mg base 2 "counts_of" (sp_counts_of K)) {f : Addr} {fd : FuncData} (F : FnP K "key_of" s_key_of f fd) : FnOk P w K mg base CX0 3 f fd ["entry"] (sp_key_of K) := by
  refine F.ok sc_key_of (fun vs H Q E h => ?_) (fun cdv A outer s H vs Q E hr h => ?_)
  · obtain ⟨_, rfl, _⟩ := h
    rfl
  · have S := sc_key_of
    refine ⟨_, PSs.nox (pss_cons (ps_asg (pe_fld (pv 0) rfl) (pg_tup rfl (pgs_cons (pg_name (i := 1) S.nd rfl (by first | exact .inl rfl | exact .inr rfl)) (pgs_cons (pg_name (i := 2) S.nd rfl (by first | exact .inl rfl | exact .inr rfl)) pgs_nil))))
    (pss_cons (ps_set (i := 3) S.nd rfl (by first | exact .inl rfl | exact .inr rfl) (pe_ifExp (pt_val (pe_fld (pv 0) rfl)) pe_int pe_int))
    (pss_one (ps_ret (pe_tup (pa_cons (pe_fld (pv 0) rfl) (pa_cons (pe_fld (pv 0) rfl) (pa_cons (pv 3) (pa_cons (pe_un un_neg (pv 1)) (pa_cons (pe_un un_neg (pv 2)) (pa_cons (pe_c c_counts_of hr (by decide) (by rfl) (pa_cons (pe_fld (pv 0) rfl) pa_nil)) pa_nil))))))))))), ?_⟩
    try dsimp only [cxOf, Cx.nox]
    have t : ET K := ⟨T.cl_Entry, T.no_Entry_name, T.no_Entry_vector, T.no_Entry_height, T.no_Entry_maker, T.no_Entry_deleted, T.no_Entry_time, T.no_Entry_blocks⟩
    obtain ⟨_, rfl, a, p, e, rfl, hE, hf, k⟩ := h
    walk_at "go"
    refine i_b (fun h1 => ?_) (fun h1 => ?_)
    all_goals
      walk_at "go"
      rename_i v1 w1 v2 w2
      refine ⟨_, rfl, v2, e.f, rfl, hf, w2.1, fun c H1 s1 hc => ?_⟩
      walk_at "go"
      rename_i r hr
      have s2 := same_new (o := .tup [.int e.ht, .int e.tm, .int (if e.dl = true then 0 else 1), .int (-e.mr.1), .int (-e.mr.2), .ref c]) hr
      rw [h1] at s2
      refine k r _ (s1.trans s2) ⟨c, ?_, same_tup s2 hc⟩
      rw [h1]
      exact SqT.of upd_same
theorem ok_winner (T : Txt K mg) (c_Entry : C8.Mak P w K mg base 1 "Entry" (He.ga K "Entry") (sp_Entry___init__ K) [])  (c_key_of : Cal P w K mg base 3 "key_of" (sp_key_of K)) (c_alike : Cal P w K mg base 1 "alike" (sp_alike K)) (c_join : Cal P w K mg base 2 "join" (sp_join K)) {f : Addr} {fd : FuncData} (F : FnP K "winner" s_winner f fd) : FnOk P w K mg base CX0 5 f fd ["entries"] (sp_winner K) := by
  refine F.ok sc_winner (fun vs H Q E h => ?_) (fun cdv A outer s H vs Q E hr h => ?_)
  · obtain ⟨_, rfl, _⟩ := h
    rfl
  · have S := sc_winner
    refine ⟨_, PSs.nox (pss_cons (ps_set (i := 1) S.nd rfl (by first | exact .inl rfl | exact .inr rfl) (pe_maxF c_key_of hr (by decide) (by rfl) T.f_max (by rfl) (pa_cons (pv 0) pa_nil)))
    (pss_cons (ps_set (i := 2) S.nd rfl (by first | exact .inl rfl | exact .inr rfl) (pe_fld (pv 1) rfl))
    (pss_cons (ps_for PassesOwn.never rfl (pi_list (pv 0)) (pg_name (i := 3) S.nd rfl (by first | exact .inl rfl | exact .inr rfl))
    (pss_one (ps_if (pt_val (pe_c c_alike hr (by decide) (by rfl) (pa_cons (pv 3) (pa_cons (pv 1) pa_nil))))
      (pss_one (ps_set (i := 2) S.nd rfl (by first | exact .inl rfl | exact .inr rfl) (pe_c c_join hr (by decide) (by rfl) (pa_cons (pv 2) (pa_cons (pe_fld (pv 3) rfl) pa_nil)))))
      pss_nil)))
    (pss_one (ps_ret (C8.pe_mk c_Entry hr (by decide) (by rfl) (pa_cons (pe_fld (pv 1) rfl) (pa_cons (pv 2) (pa_cons (pe_fld (pv 1) rfl) (pa_cons (pe_fld (pv 1) rfl) (pa_cons (pe_fld (pv 1) rfl) (pa_cons (pe_fld (pv 1) rfl) (pa_cons (pe_fld (pv 1) rfl) pa_nil))))))))))))), ?_⟩
    try dsimp only [cxOf, Cx.nox]
    have t : ET K := ⟨T.cl_Entry, T.no_Entry_name, T.no_Entry_vector, T.no_Entry_height, T.no_Entry_maker, T.no_Entry_deleted, T.no_Entry_time, T.no_Entry_blocks⟩
    obtain ⟨_, rfl, a, ps, es, rfl, hS, hP, hN, h0, hl, k⟩ := h
    walk_at "go"
    refine ⟨a, ps, kdL es, fun H' => Same H H', rfl, by rw [paired_len hP]; exact h0, Same.refl H, ⟨fun H' s => s.seq hS, fun i q H' hq s => ?_, fun i j _ _ => kdE_alike _ _, fun i _ => nofun, fun i _ => kdE_depth _⟩, fun H1 b s1 hb => ?_⟩
    · obtain ⟨e, he, hE⟩ := paired_get hP i q hq
      refine ⟨_, rfl, q, true, e, rfl, hE.same s, hN e (List.mem_of_getElem? he), fun r H2 s2 hk => ⟨s.trans s2, fun z d y => dp_same s2 y, ?_⟩⟩
      have e1 : kdL es i = kdE e := by unfold kdL; rw [getD_of he]
      rw [e1]
      exact key_dp hk
    obtain ⟨eb, heb, hE0⟩ := paired_get hP _ b hb
    have e0 : enB es = eb := by
      unfold enB
      rw [← paired_len hP]
      exact getD_of heb
    have hE := hE0.same s1
    have hS1 := s1.seq hS
    have hP1 := ents_same s1 hP
    have hbn := hN eb (List.mem_of_getElem? heb)
    clear hE0 hP hS
    walk_at "go"
    rename_i v0 w0
    refine for_ents hS1 hP1 (fun pre σ H2 => (∃ v v3, σ = [some (.ref a), some (.ref b), some (.ref v), v3] ∧ VecB true K H2 v (made (wf pre eb eb.f))) ∧ Same H1 H2) ⟨⟨v0, _, rfl, w0⟩, Same.refl H1⟩ (fun pre σ H2 q => q.2) (fun pre e post q σ H2 ee hq _ hQ => ?_) (fun σ H2 q => ?_)
    · obtain ⟨⟨v, v3, rfl, hv⟩, s2⟩ := hq
      have hE2 := hE.same s2
      walk_at "go"
      refine ⟨_, _, rfl, q, b, true, true, e, eb, rfl, rfl, hQ, hE2, ?_⟩
      walk_at "go"
      have he : e ∈ es := by rw [ee]; simp
      have step : wf (pre ++ [e]) eb eb.f = if alk e eb = true then fun k => mx (wf pre eb eb.f k) (e.f k) else wf pre eb eb.f := by
        unfold wf
        rw [List.foldl_append]
        rfl
      refine i_b (fun h1 => ?_) (fun h1 => ?_)
      · rw [if_pos h1] at step
        walk_at "go"
        rename_i u hu
        refine ⟨_, _, rfl, v, u, wf pre eb eb.f, e.f, rfl, rfl, wf_nn (fun g hg => hN g (by rw [ee]; simp [hg])) hbn, hN e he, hv.2 rfl, hu.1, fun r H3 s3 hr => ?_⟩
        walk_at "go"
        exact ⟨⟨r, _, rfl, by rw [step]; exact .of hr⟩, s2.trans s3⟩
      · rw [if_neg (by rw [h1]; exact Bool.false_ne_true)] at step
        walk_at "go"
        exact ⟨⟨v, _, rfl, by rw [step]; exact hv⟩, s2⟩
    · obtain ⟨⟨v, v3, rfl, hv⟩, s2⟩ := q
      have hE2 := hE.same s2
      walk_at "go"
      rename_i m hm bb hbb
      refine e_mkE fun r H3 dx hr s3 hi => ?_
      walk_at "go"
      refine k r H3 ((s1.trans s2).trans s3) (ent_made (dx := dx) (v := v) (m := m) (b := bb) (winE es) ?_ ?_ ?_ ?_)
      · unfold winE
        rw [e0]
        exact hi
      · unfold winE
        rw [e0]
        exact hv.same s3
      · unfold winE
        rw [e0]
        exact same_tup s3 hm
      · unfold winE
        rw [e0]
        exact same_tup s3 hbb
theorem ok_is_integer (T : Txt K mg)   {f : Addr} {fd : FuncData} (F : FnP K "is_integer" s_is_integer f fd) : FnOk P w K mg base CX0 1 f fd ["value"] (sp_is_integer K) := by
  refine F.ok sc_is_integer (fun vs H Q E h => ?_) (fun cdv A outer s H vs Q E hr h => ?_)
  · obtain ⟨_, rfl, _⟩ := h
    rfl
  · have S := sc_is_integer
    refine ⟨_, PSs.nox (pss_one (ps_ret (pe_and (pe_callB call_isi (by rfl) T.f_isinstance (by first | rfl | decide +kernel) (pa_cons (pv 0) (pa_cons (pe_bltn (v := .ty "int") (by rfl) T.f_int (by first | rfl | decide +kernel) rfl) pa_nil))) (pe_one (pe_not (pe_callB call_isi (by rfl) T.f_isinstance (by first | rfl | decide +kernel) (pa_cons (pv 0) (pa_cons (pe_bltn (v := .ty "bool") (by rfl) T.f_bool (by first | rfl | decide +kernel) rfl) pa_nil)))))))), ?_⟩
    try dsimp only [cxOf, Cx.nox]
    obtain ⟨_, rfl, ⟨n, rfl, k⟩ | ⟨b, rfl, k⟩⟩ := h
    · walk_at "go"
      exact k
    · walk_at "go"
      exact k
theorem ok_is_index (T : Txt K mg)  (c_is_integer : Cal P w K mg base 1 "is_integer" (sp_is_integer K)) {f : Addr} {fd : FuncData} (F : FnP K "is_index" s_is_index f fd) : FnOk P w K mg base CX0 2 f fd ["value", "count"] (sp_is_index K) := by
  refine F.ok sc_is_index (fun vs H Q E h => ?_) (fun cdv A outer s H vs Q E hr h => ?_)
  · obtain ⟨_, _, rfl, _⟩ := h
    rfl
  · have S := sc_is_index
    refine ⟨_, PSs.nox (pss_one (ps_ret (pe_and (pe_c c_is_integer hr (by decide) (by rfl) (pa_cons (pv 0) pa_nil)) (pe_one (pe_chain op_le op_lt pe_int (pv 0) (pv 1)))))), ?_⟩
    try dsimp only [cxOf, Cx.nox]
    obtain ⟨_, _, rfl, n, rfl, ⟨m, rfl, k⟩ | ⟨b, rfl, k⟩⟩ := h
    · walk_at "go"
      refine ⟨_, rfl, .inl ⟨m, rfl, ?_⟩⟩
      walk_at "go"
      generalize decide (0 ≤ m) = b1 at k ⊢
      cases b1
      · exact k
      · rw [if_pos rfl]
        walk_at "go"
        rw [Bool.true_and] at k
        exact k
    · walk_at "go"
      refine ⟨_, rfl, .inr ⟨b, rfl, ?_⟩⟩
      walk_at "go"
      exact k
theorem ok_reasons (T : Txt K mg)  (c_key_of : Cal P w K mg base 3 "key_of" (sp_key_of K)) (c_reason : Cal P w K mg base 4 "_reason" (sp_reason K)) {f : Addr} {fd : FuncData} (F : FnP K "reasons" s_reasons f fd) : FnOk P w K mg base CX0 5 f fd ["entries"] (sp_reasons K) := by
  refine F.ok sc_reasons (fun vs H Q E h => ?_) (fun cdv A outer s H vs Q E hr h => ?_)
  · obtain ⟨_, rfl, _⟩ := h
    rfl
  · have S := sc_reasons
    refine ⟨_, PSs.nox (pss_cons (ps_setLc (i := 1) (own := [("entry", 3)]) (g := gName 3) (tt := tYes) rfl S.nd rfl rfl (sw_true rfl rfl rfl (by decide +kernel)) (pi_list (pv 0)) (blkOk_by (N := N_reasons) (sc := defScope s_reasons) (by decide +kernel)) (fun _ _ _ _ _ => (pg_name (i := 3) S.nd rfl (by first | exact .inl rfl | exact .inr rfl))) (fun _ _ _ _ _ => pts_nil) (fun _ _ _ _ _ => (pe_c c_key_of hr (by decide) (by rfl) (pa_cons (pv 3) pa_nil))))
    (pss_cons (ps_set (i := 2) S.nd rfl (by first | exact .inl rfl | exact .inr rfl) (pe_bm PySem.F.plainAttrs_list PySem.F.slot_list_index PySem.F.type_list_index (mt_indexD (un65 hr)) (pv 1) (pa_cons (pe_callB (cr_maxD rfl hr.units) (by rfl) T.f_max (by first | rfl | decide +kernel) (pa_cons (pv 1) pa_nil)) pa_nil)))
    (pss_one (ps_ret (pe_tup (pa_cons (pv 2) (pa_cons (pe_callTy call_tupleF (by rfl) T.f_tuple (by first | rfl | decide +kernel) (pa_cons (pe_lc (own := [("entry", 3)]) (g := gName 3) (tt := tYes) rfl S.nd (pi_list (pv 0)) (blkOk_by (N := N_reasons) (sc := defScope s_reasons) (by decide +kernel)) (fun _ _ _ _ _ => (pg_name (i := 3) S.nd rfl (by first | exact .inl rfl | exact .inr rfl))) (fun _ _ _ _ _ => pts_nil) (fun _ _ _ _ _ => (pe_c c_reason hr (by decide) (by rfl) (pa_cons (pv 3) (pa_cons (pe_ix (ixL K) (pv 0) (pv 2) (fun _ _ => rfl)) pa_nil))))) pa_nil)) pa_nil))))))), ?_⟩
    try dsimp only [cxOf, Cx.nox]
    have t : ET K := ⟨T.cl_Entry, T.no_Entry_name, T.no_Entry_vector, T.no_Entry_height, T.no_Entry_maker, T.no_Entry_deleted, T.no_Entry_time, T.no_Entry_blocks⟩
    obtain ⟨_, rfl, a, ps, es, rfl, hL, k⟩ := h
    have hS := hL.l
    walk_at "go"
    intro D hD
    refine lc_rel (walk_list (K := K) (xs := ps.map V.ref)) hD (by have := paired_len hL.p; have := hL.n; rw [List.length_map]; omega) (fun H1 s => s.seq hL.l) (fun i v H1 => ∃ q, v = .ref q ∧ KeyT K H1 q (es.getD i dE)) (fun i v _ _ ⟨q, e, z⟩ s => ⟨q, e, z.same s⟩) (fun i x H1 H1' C E acc hi s1 ea hy hC => ?_) (fun H1 us s1 e1 l1 h1 => ?_)
    · obtain ⟨rfl, hx⟩ := hy
      
      rw [List.getElem?_map] at hx
      obtain ⟨q, hq, rfl⟩ := Option.map_eq_some_iff.mp hx
      obtain ⟨e, he, hE⟩ := paired_get hL.p i q hq
      have ee : es.getD i dE = e := getD_of he
      have hE1 := hE.same s1
      walk_at "go"
      refine ⟨_, rfl, q, true, e, rfl, hE1, hL.f e (List.mem_of_getElem? he), fun r H3 s3 hk => ?_⟩
      rw [← ee] at hk
      exact hC _ H3 s3 ⟨r, rfl, key_hid (fun d hd => by rw [List.mem_singleton.mp hd]; exact nt_lst (s3 _ _ ea)) hk⟩
    obtain ⟨qs, rfl, hq⟩ := refs_of h1
    have hK : Kys K H1 D qs es := ⟨SqL.of e1, by rw [List.length_map, List.length_map] at l1; rw [l1, paired_len hL.p], fun i q z => (hq i q z).same hid_sub⟩
    have hL1 := hL.same s1
    have hS1 := hL1.l
    clear hS hq h1
    walk_at "go"
    obtain ⟨i, hB⟩ := bst_ex es hL.n0
    refine ⟨D, qs, kdL es, rfl, by rw [hK.n]; exact hL.n0, hK.md, fun p hp => ?_⟩
    rw [hK.n] at hp
    refine ⟨D, .ref p, kdL es (mxI (kdL es) es.length), es.map kdE, i, kdL es i, rfl, rfl, hK.dp, key_dp (hK.k _ p hp), shaped_list (can_keys es) (depth_keys es), kdE_shaped _, ds_at hB.1, hB.2.1, fun m z hm hz => ?_, ?_⟩
    · rw [ds_at (Nat.lt_trans hm hB.1)] at hz
      cases hz
      exact hB.2.2 m hm
    obtain ⟨b, hat, _, hG, hg, _⟩ := hL1.at hB.1
    walk_at "go"
    intro D2 hD2
    refine lc_rel (walk_list (K := K) (xs := ps.map V.ref)) hD2 (by have := paired_len hL.p; have := hL.n; rw [List.length_map]; omega) (fun H2 s => s.seq hL1.l) (fun j v H2 => ∃ d, Rsn (es.getD j dE) (es.getD i dE) d ∧ Dp K H2 v d) (fun j v _ _ ⟨d, z, y⟩ s => ⟨d, z, dp_same s y⟩) (fun j x H2 H2' C E acc hj s2 ea hy hC => ?_) (fun H2 us s2 e2 l2 h2 => ?_)
    · obtain ⟨rfl, hx⟩ := hy
      rw [List.getElem?_map] at hx
      obtain ⟨q, hq, rfl⟩ := Option.map_eq_some_iff.mp hx
      obtain ⟨e, he, hE⟩ := paired_get hL1.p j q hq
      have ee : es.getD j dE = e := getD_of he
      have hE2 := hE.same s2
      have hG2 := hG.same s2
      have hS2 := s2.seq hS1
      walk_at "go"
      refine e_ixL hS2 hat ?_
      walk_at "go"
      refine ⟨_, _, rfl, q, b, true, true, e, es.getD i dE, rfl, rfl, hE2, hG2, hL.f e (List.mem_of_getElem? he), hg, fun r d H3 s3 hr hd => ?_⟩
      rw [← ee] at hr
      exact hC _ H3 s3 ⟨d, hr, dp_hid (fun d hd => by rw [List.mem_singleton.mp hd]; exact nt_lst (s3 _ _ ea)) hd hr.nl⟩
    have hU : SqL K H2 D2 us := SqL.of e2
    walk_at "go"
    intro w H3 hw s3 hp3 hH3
    walk_at "go"
    rename_i r hr
    have s4 := same_new (o := .tup [.int (i : Nat), .ref w]) hr
    refine k r w i us _ (s1.trans (s2.trans (s3.trans s4))) ⟨SqT.of upd_same, (hp3.same s4).seq, hB, prd_mk (by rw [l2, List.length_map, paired_len hL.p]) fun j v e hv he => ?_⟩
    obtain ⟨d, q1, q2⟩ := h2 j v hv
    rw [getD_of he] at q1
    exact ⟨d, q1, dp_same (s3.trans s4) (dp_same hid_sub q2)⟩
theorem ok_reason (T : Txt K mg)  (c_alike : Cal P w K mg base 1 "alike" (sp_alike K)) (c_key_of : Cal P w K mg base 3 "key_of" (sp_key_of K)) {f : Addr} {fd : FuncData} (F : FnP K "_reason" s_reason f fd) : FnOk P w K mg base CX0 4 f fd ["entry", "best"] (sp_reason K) := by
  refine F.ok sc_reason (fun vs H Q E h => ?_) (fun cdv A outer s H vs Q E hr h => ?_)
  · obtain ⟨_, _, rfl, _⟩ := h
    rfl
  · have S := sc_reason
    refine ⟨_, PSs.nox (pss_cons (ps_if (pt_val (pe_c c_alike hr (by decide) (by rfl) (pa_cons (pv 0) (pa_cons (pv 1) pa_nil))))
    (pss_one (ps_ret (pe_tup (pa_cons pe_str pa_nil))))
    pss_nil)
    (pss_cons (ps_for PassesOwn.never rfl (pi_enumZ (by rfl) T.f_enumerate (by rfl) T.f_zip (pa_cons (pe_c c_key_of hr (by decide) (by rfl) (pa_cons (pv 0) pa_nil)) (pa_cons (pe_c c_key_of hr (by decide) (by rfl) (pa_cons (pv 1) pa_nil)) pa_nil))) (pg_tup rfl (pgs_cons (pg_name (i := 2) S.nd rfl (by first | exact .inl rfl | exact .inr rfl)) (pgs_cons (pg_tup rfl (pgs_cons (pg_name (i := 3) S.nd rfl (by first | exact .inl rfl | exact .inr rfl)) (pgs_cons (pg_name (i := 4) S.nd rfl (by first | exact .inl rfl | exact .inr rfl)) pgs_nil))) pgs_nil)))
    (pss_one (ps_if (pt_cmpR (op_neP hr.units) (pv 3) (pv 4) (nomark _))
      (pss_one (ps_ret (pe_tup (pa_cons pe_str (pa_cons (pv 2) (pa_cons (pv 3) (pa_cons (pv 4) pa_nil)))))))
      pss_nil)))
    (pss_one (ps_ret (pe_tup (pa_cons pe_str pa_nil)))))), ?_⟩
    try dsimp only [cxOf, Cx.nox]
    have t : ET K := ⟨T.cl_Entry, T.no_Entry_name, T.no_Entry_vector, T.no_Entry_height, T.no_Entry_maker, T.no_Entry_deleted, T.no_Entry_time, T.no_Entry_blocks⟩
    obtain ⟨_, _, rfl, a, b, p, p2, e, g, rfl, rfl, hE, hG, hf, hg, k⟩ := h
    walk_at "go"
    refine ⟨_, _, rfl, a, b, p, p2, e, g, rfl, rfl, hE, hG, ?_⟩
    walk_at "go"
    refine i_b (fun h1 => ?_) (fun h1 => ?_)
    · walk_at "go"
      rename_i r hr
      exact k r kA _ (same_new hr) (.al h1) (.tup (SqT.of upd_same) (.cons (.str _) .nil))
    walk_at "go"
    refine ⟨_, rfl, a, p, e, rfl, hE, hf, fun r1 H1 s1 k1 => ?_⟩
    have hG1 := hG.same s1
    walk_at "go"
    refine ⟨_, rfl, b, p2, g, rfl, hG1, hg, fun r2 H2 s2 k2 => ?_⟩
    obtain ⟨xs, hx, lx, dx⟩ := key_parts (k1.same s2)
    obtain ⟨ys, hy, ly, dy⟩ := key_parts k2
    refine ⟨r1, r2, xs, ys, rfl, hx, hy, ?_⟩
    refine for_enumZ (by rw [lx, ly]) (fun i σ H3 => (∃ v2 v3 v4, σ = [some (.ref a), some (.ref b), v2, v3, v4]) ∧ Same H2 H3 ∧ ∀ j, j < i → qE e g j = true) ⟨⟨_, _, _, rfl⟩, Same.refl H2, fun j hj => by omega⟩ (fun i σ H3 q => ⟨same_tup q.2.1 hx, same_tup q.2.1 hy⟩) (fun i x y Pp Tt σ H3 hxi hyi q hP hT => ?_) (fun σ H3 q => ?_)
    · obtain ⟨⟨v2, v3, v4, rfl⟩, s3, qs⟩ := q
      have hi : i < 6 := by
        have := (List.getElem?_eq_some_iff.mp hxi).1
        omega
      have s4 := (same_new (o := .tup [x, y]) hP).trans (same_new (o := .tup [.int (i : Nat), .ref Pp]) hT)
      have h5 : SqT K (upd (upd H3 Pp (.tup [x, y])) Tt (.tup [.int (i : Nat), .ref Pp])) Tt [.int (i : Nat), .ref Pp] := SqT.of upd_same
      have h6 : SqT K (upd (upd H3 Pp (.tup [x, y])) Tt (.tup [.int (i : Nat), .ref Pp])) Pp [x, y] := same_tup (same_new hT) (SqT.of upd_same)
      have hdx := dp_same (s3.trans s4) (dx i x hxi)
      have hdy := dp_same (s3.trans s4) (dy i y hyi)
      generalize upd (upd H3 Pp (.tup [x, y])) Tt (.tup [.int (i : Nat), .ref Pp]) = H5 at *
      walk_at "go"
      have pe := rE_plain e hi
      have pg := rE_plain g hi
      have de := rE_depth e hi
      cases hq : qE e g i with
      | true =>
        refine e_nePV hdx hdy pe pg (by omega) hq ?_
        walk_at "go"
        exact ⟨⟨_, _, _, rfl⟩, s3.trans s4, fun j hj => by
          by_cases z : j = i
          · rw [z]; exact hq
          · exact qs j (by omega)⟩
      | false =>
        refine e_nePV hdx hdy pe pg (by omega) hq ?_
        walk_at "go"
        rename_i r hr
        have s5 := same_new (o := .tup [.str "less", .int (i : Nat), x, y]) hr
        exact k r (kL e g i) _ (((s1.trans s2).trans (s3.trans s4)).trans s5) (.le i h1 hi qs hq) (.tup (SqT.of upd_same) (.cons (.str _) (.cons (.int _) (.cons (dp_same s5 hdx) (.cons (dp_same s5 hdy) .nil)))))
    · obtain ⟨⟨v2, v3, v4, rfl⟩, s3, qs⟩ := q
      walk_at "go"
      rename_i r hr
      rw [lx] at qs
      exact k r kA _ (((s1.trans s2).trans s3).trans (same_new hr)) (.no h1 qs) (.tup (SqT.of upd_same) (.cons (.str _) .nil))
theorem ok_judge_winner (T : Txt K mg)  (c_is_index : Cal P w K mg base 2 "is_index" (sp_is_index K)) (e_Entry : EqC P w K mg base 1 "Entry" (sp_Entry___eq__ K)) (c_winner : Cal P w K mg base 5 "winner" (sp_winner K)) (c_key_of : Cal P w K mg base 3 "key_of" (sp_key_of K)) (c_takes_reason : Cal P w K mg base 2 "_takes_reason" (sp_takes_reason K)) (c_reason : Cal P w K mg base 4 "_reason" (sp_reason K)) {f : Addr} {fd : FuncData} (F : FnP K "judge_winner" s_judge_winner f fd) : FnOk P w K mg base CX0 6 f fd ["entries", "entry", "paper"] (sp_judge_winner K) := by
  refine F.ok sc_judge_winner (fun vs H Q E h => ?_) (fun cdv A outer s H vs Q E hr h => ?_)
  · obtain ⟨_, _, _, rfl, _⟩ := h
    rfl
  · have S := sc_judge_winner
    refine ⟨_, PSs.nox (pss_cons (ps_if (pw_or (pt_not (pt_val (pe_callB call_isi (by rfl) T.f_isinstance (by first | rfl | decide +kernel) (pa_cons (pv 2) (pa_cons (pe_bltn (v := .ty "tuple") (by rfl) T.f_tuple (by first | rfl | decide +kernel) rfl) pa_nil))))) (pw_or1 (pt_cmpR op_ne (pe_callB call_len_seq (by rfl) T.f_len (by first | rfl | decide +kernel) (pa_cons (pv 2) pa_nil)) pe_int (nomark _)))).pt
    (pss_one (ps_ret pe_bl))
    pss_nil)
    (pss_cons (ps_asg (pv 2) (pg_tup rfl (pgs_cons (pg_name (i := 3) S.nd rfl (by first | exact .inl rfl | exact .inr rfl)) (pgs_cons (pg_name (i := 4) S.nd rfl (by first | exact .inl rfl | exact .inr rfl)) pgs_nil))))
    (pss_cons (ps_if (pw_or (pt_not (pt_val (pe_c c_is_index hr (by decide) (by rfl) (pa_cons (pv 3) (pa_cons (pe_callB call_len_seq (by rfl) T.f_len (by first | rfl | decide +kernel) (pa_cons (pv 0) pa_nil)) pa_nil))))) (pw_or (pt_not (pt_val (pe_callB call_isi (by rfl) T.f_isinstance (by first | rfl | decide +kernel) (pa_cons (pv 4) (pa_cons (pe_bltn (v := .ty "tuple") (by rfl) T.f_tuple (by first | rfl | decide +kernel) rfl) pa_nil))))) (pw_or1 (pt_cmpR op_ne (pe_callB call_len_seq (by rfl) T.f_len (by first | rfl | decide +kernel) (pa_cons (pv 4) pa_nil)) (pe_callB call_len_seq (by rfl) T.f_len (by first | rfl | decide +kernel) (pa_cons (pv 0) pa_nil)) (nomark _))))).pt
    (pss_one (ps_ret pe_bl))
    pss_nil)
    (pss_cons (ps_if (pw_or (pt_cmpR (op_neP hr.units) (pe_c c_key_of hr (by decide) (by rfl) (pa_cons (pe_ix ix_list (pv 0) (pv 3) (fun _ _ => rfl)) pa_nil)) (pe_callB (cr_maxD rfl hr.units) (by rfl) T.f_max (by first | rfl | decide +kernel) (pa_cons (pe_lc (own := [("one", 5)]) (g := gName 5) (tt := tYes) rfl S.nd (pi_list (pv 0)) (blkOk_by (N := N_judge_winner) (sc := defScope s_judge_winner) (by decide +kernel)) (fun _ _ _ _ _ => (pg_name (i := 5) S.nd rfl (by first | exact .inl rfl | exact .inr rfl))) (fun _ _ _ _ _ => pts_nil) (fun _ _ _ _ _ => (pe_c c_key_of hr (by decide) (by rfl) (pa_cons (pv 5) pa_nil)))) pa_nil)) (nomark _)) (pw_or1 (pt_cmpR (op_neC e_Entry T.cn_Entry hr (by decide)) (pv 1) (pe_c c_winner hr (by decide) (by rfl) (pa_cons (pv 0) pa_nil)) (nomark _)))).pt
    (pss_one (ps_ret pe_bl))
    pss_nil)
    (pss_one (ps_ret (pe_callB (cr_all rfl) (by rfl) T.f_all (by first | rfl | decide +kernel) (pa_cons (pe_lc (own := [("one", 5), ("row", 6)]) (g := gTup K 2 (gCons (gName 5) (gCons (gName 6) gNil))) (tt := tYes) rfl S.nd (pi_zipLT (by rfl) T.f_zip (pa_cons (pv 0) (pa_cons (pv 4) pa_nil))) (blkOk_by (N := N_judge_winner) (sc := defScope s_judge_winner) (by decide +kernel)) (fun _ _ _ _ _ => (pg_tupK (n := 2) K rfl (pgs_cons (pg_name (i := 5) S.nd rfl (by first | exact .inl rfl | exact .inr rfl)) (pgs_cons (pg_name (i := 6) S.nd rfl (by first | exact .inl rfl | exact .inr rfl)) pgs_nil)))) (fun _ _ _ _ _ => pts_nil) (fun _ _ _ _ _ => (pe_c c_takes_reason hr (by decide) (by rfl) (pa_cons (pv 6) (pa_cons (pe_c c_reason hr (by decide) (by rfl) (pa_cons (pv 5) (pa_cons (pe_ix (ixL K) (pv 0) (pv 3) (fun _ _ => rfl)) pa_nil))) pa_nil))))) pa_nil)))))))), ?_⟩
    try dsimp only [cxOf, Cx.nox]
    have t : ET K := ⟨T.cl_Entry, T.no_Entry_name, T.no_Entry_vector, T.no_Entry_height, T.no_Entry_maker, T.no_Entry_deleted, T.no_Entry_time, T.no_Entry_blocks⟩
    obtain ⟨_, _, _, rfl, a, b, ps, es, p, eg, t1, rfl, rfl, hL, hG, hJ, k⟩ := h
    have hS := hL.l
    have hP2 := hL.p
    cases hJ with
    | non =>
      walk_at "go"
      exact k _ (Same.refl H)
    | int i =>
      walk_at "go"
      exact k _ (Same.refl H)
    | lst hh =>
      walk_at "go"
      exact k _ (Same.refl H)
    | len hh n =>
      walk_at "go"
      refine i_nd (fun h1 => ?_) (fun h1 => ?_)
      · walk_at "go"
        exact k _ (Same.refl H)
      · omega
    | bl hh =>
      walk_at "go"
      refine i_nd (fun h1 => absurd rfl h1) (fun h1 => ?_)
      walk_at "go"
      refine ⟨_, _, rfl, _, rfl, .inr ⟨_, rfl, ?_⟩⟩
      walk_at "go"
      exact k _ (Same.refl H)
    | @ix a2 k1 y hh n =>
      have hix : (decide (0 ≤ (k1 : Int)) && decide ((k1 : Int) < (((ps.map V.ref).length : Nat) : Int))) = false := by
        have := paired_len hP2
        rw [List.length_map]
        simp
        omega
      walk_at "go"
      refine i_nd (fun h1 => absurd rfl h1) (fun h1 => ?_)
      walk_at "go"
      refine ⟨_, _, rfl, _, rfl, .inl ⟨_, rfl, ?_⟩⟩
      rw [hix]
      walk_at "go"
      exact k _ (Same.refl H)
    | @rl a2 q k1 xs hh n hq =>
      have hix : (decide (0 ≤ (k1 : Int)) && decide ((k1 : Int) < (((ps.map V.ref).length : Nat) : Int))) = true := by
        have := paired_len hP2
        rw [List.length_map]
        simp
        omega
      walk_at "go"
      refine i_nd (fun h1 => absurd rfl h1) (fun h1 => ?_)
      walk_at "go"
      refine ⟨_, _, rfl, _, rfl, .inl ⟨_, rfl, ?_⟩⟩
      rw [hix]
      walk_at "go"
      exact k _ (Same.refl H)
    | @rn a2 q k1 xs hh n hq l =>
      have hix : (decide (0 ≤ (k1 : Int)) && decide ((k1 : Int) < (((ps.map V.ref).length : Nat) : Int))) = true := by
        have := paired_len hP2
        rw [List.length_map]
        simp
        omega
      walk_at "go"
      refine i_nd (fun h1 => absurd rfl h1) (fun h1 => ?_)
      walk_at "go"
      refine ⟨_, _, rfl, _, rfl, .inl ⟨_, rfl, ?_⟩⟩
      rw [hix]
      walk_at "go"
      refine i_nd (fun h2 => ?_) (fun h2 => ?_)
      · walk_at "go"
        exact k _ (Same.refl H)
      · have := paired_len hP2
        rw [List.length_map] at h2
        omega
    | @ky a2 q k1 xs hh n hq l e =>
      have hix : (decide (0 ≤ (k1 : Int)) && decide ((k1 : Int) < (((ps.map V.ref).length : Nat) : Int))) = true := by
        have := paired_len hP2
        rw [List.length_map]
        simp
        omega
      walk_at "go"
      refine i_nd (fun h1 => absurd rfl h1) (fun h1 => ?_)
      walk_at "go"
      refine ⟨_, _, rfl, _, rfl, .inl ⟨_, rfl, ?_⟩⟩
      rw [hix]
      walk_at "go"
      refine i_nd (fun h2 => absurd (by rw [List.length_map, l, ← paired_len hP2]) h2) (fun h2 => ?_)
      obtain ⟨pk, hat, _, hE, hf, _⟩ := hL.at n
      walk_at "go"
      refine e_ixL hS hat ?_
      walk_at "go"
      refine ⟨_, rfl, pk, true, es.getD k1 dE, rfl, hE, hf, fun r1 H1 s1 hk1 => ?_⟩
      have hL1 := hL.same s1
      have hS1 := hL1.l
      walk_at "go"
      intro D hD
      refine lc_rel (walk_list (K := K) (xs := ps.map V.ref)) hD (by have := paired_len hL.p; have := hL.n; rw [List.length_map]; omega) (fun H2 s => s.seq hL1.l) (fun i v H2 => ∃ q, v = .ref q ∧ KeyT K H2 q (es.getD i dE)) (fun i v _ _ ⟨q, e, z⟩ s => ⟨q, e, z.same s⟩) (fun i x H2 H2' C E acc hi s2 ea hy hC => ?_) (fun H2 us s2 e2 l2 h3 => ?_)
      · obtain ⟨rfl, hx⟩ := hy
        rw [List.getElem?_map] at hx
        obtain ⟨q9, hq9, rfl⟩ := Option.map_eq_some_iff.mp hx
        obtain ⟨e9, he9, hE9⟩ := paired_get hL1.p i q9 hq9
        have ee : es.getD i dE = e9 := getD_of he9
        have hE10 := hE9.same s2
        walk_at "go"
        refine ⟨_, rfl, q9, true, e9, rfl, hE10, hL.f e9 (List.mem_of_getElem? he9), fun r H3 s3 hk => ?_⟩
        rw [← ee] at hk
        exact hC _ H3 s3 ⟨r, rfl, key_hid (fun d hd => by rw [List.mem_singleton.mp hd]; exact nt_lst (s3 _ _ ea)) hk⟩
      obtain ⟨qs, rfl, hq2⟩ := refs_of h3
      have hK : Kys K H2 D qs es := ⟨SqL.of e2, by rw [List.length_map, List.length_map] at l2; rw [l2, paired_len hL.p], fun i q z => (hq2 i q z).same hid_sub⟩
      refine ⟨D, qs, kdL es, rfl, by rw [hK.n]; exact hL.n0, hK.md, fun p9 hp => ?_⟩
      rw [hK.n] at hp
      refine e_nePV (d := kdL es k1) (e := kdL es (mxI (kdL es) es.length)) (key_dp (hk1.same s2)) (key_dp (hK.k _ _ hp)) (kdE_plain _) (kdE_plain _) (kdE_depth _) e ?_
      walk_at "go"
      exact k _ (s1.trans s2)
    | @ot a2 q k1 xs hh n hq l e o =>
      have hix : (decide (0 ≤ (k1 : Int)) && decide ((k1 : Int) < (((ps.map V.ref).length : Nat) : Int))) = true := by
        have := paired_len hP2
        rw [List.length_map]
        simp
        omega
      walk_at "go"
      refine i_nd (fun h1 => absurd rfl h1) (fun h1 => ?_)
      walk_at "go"
      refine ⟨_, _, rfl, _, rfl, .inl ⟨_, rfl, ?_⟩⟩
      rw [hix]
      walk_at "go"
      refine i_nd (fun h2 => absurd (by rw [List.length_map, l, ← paired_len hP2]) h2) (fun h2 => ?_)
      obtain ⟨pk, hat, _, hE, hf, _⟩ := hL.at n
      walk_at "go"
      refine e_ixL hS hat ?_
      walk_at "go"
      refine ⟨_, rfl, pk, true, es.getD k1 dE, rfl, hE, hf, fun r1 H1 s1 hk1 => ?_⟩
      have hL1 := hL.same s1
      have hS1 := hL1.l
      walk_at "go"
      intro D hD
      refine lc_rel (walk_list (K := K) (xs := ps.map V.ref)) hD (by have := paired_len hL.p; have := hL.n; rw [List.length_map]; omega) (fun H2 s => s.seq hL1.l) (fun i v H2 => ∃ q, v = .ref q ∧ KeyT K H2 q (es.getD i dE)) (fun i v _ _ ⟨q, e, z⟩ s => ⟨q, e, z.same s⟩) (fun i x H2 H2' C E acc hi s2 ea hy hC => ?_) (fun H2 us s2 e2 l2 h3 => ?_)
      · obtain ⟨rfl, hx⟩ := hy
        rw [List.getElem?_map] at hx
        obtain ⟨q9, hq9, rfl⟩ := Option.map_eq_some_iff.mp hx
        obtain ⟨e9, he9, hE9⟩ := paired_get hL1.p i q9 hq9
        have ee : es.getD i dE = e9 := getD_of he9
        have hE10 := hE9.same s2
        walk_at "go"
        refine ⟨_, rfl, q9, true, e9, rfl, hE10, hL.f e9 (List.mem_of_getElem? he9), fun r H3 s3 hk => ?_⟩
        rw [← ee] at hk
        exact hC _ H3 s3 ⟨r, rfl, key_hid (fun d hd => by rw [List.mem_singleton.mp hd]; exact nt_lst (s3 _ _ ea)) hk⟩
      obtain ⟨qs, rfl, hq2⟩ := refs_of h3
      have hK : Kys K H2 D qs es := ⟨SqL.of e2, by rw [List.length_map, List.length_map] at l2; rw [l2, paired_len hL.p], fun i q z => (hq2 i q z).same hid_sub⟩
      refine ⟨D, qs, kdL es, rfl, by rw [hK.n]; exact hL.n0, hK.md, fun p9 hp => ?_⟩
      rw [hK.n] at hp
      refine e_nePV (d := kdL es k1) (e := kdL es (mxI (kdL es) es.length)) (key_dp (hk1.same s2)) (key_dp (hK.k _ _ hp)) (kdE_plain _) (kdE_plain _) (kdE_depth _) e ?_
      have hL2 := hL1.same s2
      have hS2 := hL2.l
      have hG2 := (hG.same s1).same s2
      walk_at "go"
      refine ⟨_, rfl, a, ps, es, rfl, hL2.l, hL2.p, hL2.f, hL2.n0, Nat.le_trans hL2.n (by decide), fun r2 H3 s3 hW => ?_⟩
      have hL3 := hL2.same s3
      have hS3 := hL3.l
      refine e_neEE (hG2.same s3) hW ?_
      rw [o]
      walk_at "go"
      exact k _ (s1.trans (s2.trans s3))
    | @rw a2 q k1 xs hh n hq l e o t ht =>
      have hix : (decide (0 ≤ (k1 : Int)) && decide ((k1 : Int) < (((ps.map V.ref).length : Nat) : Int))) = true := by
        have := paired_len hP2
        rw [List.length_map]
        simp
        omega
      walk_at "go"
      refine i_nd (fun h1 => absurd rfl h1) (fun h1 => ?_)
      walk_at "go"
      refine ⟨_, _, rfl, _, rfl, .inl ⟨_, rfl, ?_⟩⟩
      rw [hix]
      walk_at "go"
      refine i_nd (fun h2 => absurd (by rw [List.length_map, l, ← paired_len hP2]) h2) (fun h2 => ?_)
      obtain ⟨pk, hat, _, hE, hf, _⟩ := hL.at n
      walk_at "go"
      refine e_ixL hS hat ?_
      walk_at "go"
      refine ⟨_, rfl, pk, true, es.getD k1 dE, rfl, hE, hf, fun r1 H1 s1 hk1 => ?_⟩
      have hL1 := hL.same s1
      have hS1 := hL1.l
      walk_at "go"
      intro D hD
      refine lc_rel (walk_list (K := K) (xs := ps.map V.ref)) hD (by have := paired_len hL.p; have := hL.n; rw [List.length_map]; omega) (fun H2 s => s.seq hL1.l) (fun i v H2 => ∃ q, v = .ref q ∧ KeyT K H2 q (es.getD i dE)) (fun i v _ _ ⟨q, e, z⟩ s => ⟨q, e, z.same s⟩) (fun i x H2 H2' C E acc hi s2 ea hy hC => ?_) (fun H2 us s2 e2 l2 h3 => ?_)
      · obtain ⟨rfl, hx⟩ := hy
        rw [List.getElem?_map] at hx
        obtain ⟨q9, hq9, rfl⟩ := Option.map_eq_some_iff.mp hx
        obtain ⟨e9, he9, hE9⟩ := paired_get hL1.p i q9 hq9
        have ee : es.getD i dE = e9 := getD_of he9
        have hE10 := hE9.same s2
        walk_at "go"
        refine ⟨_, rfl, q9, true, e9, rfl, hE10, hL.f e9 (List.mem_of_getElem? he9), fun r H3 s3 hk => ?_⟩
        rw [← ee] at hk
        exact hC _ H3 s3 ⟨r, rfl, key_hid (fun d hd => by rw [List.mem_singleton.mp hd]; exact nt_lst (s3 _ _ ea)) hk⟩
      obtain ⟨qs, rfl, hq2⟩ := refs_of h3
      have hK : Kys K H2 D qs es := ⟨SqL.of e2, by rw [List.length_map, List.length_map] at l2; rw [l2, paired_len hL.p], fun i q z => (hq2 i q z).same hid_sub⟩
      refine ⟨D, qs, kdL es, rfl, by rw [hK.n]; exact hL.n0, hK.md, fun p9 hp => ?_⟩
      rw [hK.n] at hp
      refine e_nePV (d := kdL es k1) (e := kdL es (mxI (kdL es) es.length)) (key_dp (hk1.same s2)) (key_dp (hK.k _ _ hp)) (kdE_plain _) (kdE_plain _) (kdE_depth _) e ?_
      have hL2 := hL1.same s2
      have hS2 := hL2.l
      have hG2 := (hG.same s1).same s2
      walk_at "go"
      refine ⟨_, rfl, a, ps, es, rfl, hL2.l, hL2.p, hL2.f, hL2.n0, Nat.le_trans hL2.n (by decide), fun r2 H3 s3 hW => ?_⟩
      have hL3 := hL2.same s3
      have hS3 := hL3.l
      refine e_neEE (hG2.same s3) hW ?_
      rw [o]
      have s123 := s1.trans (s2.trans s3)
      have hq3 := same_tup s123 hq
      walk_at "go"
      refine ⟨_, _, _, _, rfl, hS3, hq3, ?_⟩
      intro D2 hD2
      have hlen : (ps.map V.ref).length = xs.length := by rw [List.length_map, l, paired_len hP2]
      refine lc_rel (walk_zipLT (K := K) hlen) hD2 (by rw [hlen, l]; have := hL.n; omega) (fun H4 s => ⟨s.seq hS3, same_tup s hq3⟩) (fun i v H4 => v = .bl (t i)) (fun i v _ _ z _ => z) (fun i x H4 H4' C E acc hi s4 ea hy hC => ?_) (fun H4 us s4 e4 l4 h4 => ?_)
      · obtain ⟨Tp, x9, y9, rfl, hT, rfl, hx9, hy9⟩ := hy
        have s5 := same_new (o := .tup [x9, y9]) hT
        have hT5 : SqT K (upd H4 Tp (.tup [x9, y9])) Tp [x9, y9] := SqT.of upd_same
        have s35 := s4.trans s5
        dsimp only at hx9
        rw [List.getElem?_map] at hx9
        obtain ⟨q9, hq9, rfl⟩ := Option.map_eq_some_iff.mp hx9
        obtain ⟨e9, he9, hE9⟩ := paired_get hL3.p i q9 hq9
        have ee : es.getD i dE = e9 := getD_of he9
        have hE10 := hE9.same s35
        have hTk := (ht i y9 hy9).same (s123.trans s35)
        rw [ee] at hTk
        have hS5 := s35.seq hS3
        have hEk := hE.same (s123.trans s35)
        generalize upd H4 Tp (.tup [.ref q9, y9]) = H5 at *
        walk_at "go"
        refine e_ixL hS5 hat ?_
        walk_at "go"
        refine ⟨_, _, rfl, q9, pk, true, true, e9, es.getD k1 dE, rfl, rfl, hE10, hEk, hL.f e9 (List.mem_of_getElem? he9), hf, fun r d H6 s6 hr9 hd => ?_⟩
        walk_at "go"
        refine ⟨_, _, rfl, e9, es.getD k1 dE, r, d, t i, rfl, hr9, hd, hTk.same s6, fun H7 s7 => ?_⟩
        exact hC _ H7 ((s5.trans s6).trans s7) rfl
      have eus : us = ((List.range es.length).map t).map V.bl := by
        refine List.ext_getElem? fun i => ?_
        by_cases hi : i < es.length
        · have hi2 : i < us.length := by rw [l4, hlen, l]; exact hi
          rw [List.getElem?_eq_getElem hi2, h4 i _ (List.getElem?_eq_getElem hi2)]
          simp [hi]
        · rw [List.getElem?_eq_none (by rw [l4, hlen, l]; omega), List.getElem?_eq_none (by simp; omega)]
      rw [eus] at e4
      refine ⟨D2, _, rfl, SqL.of e4, ?_⟩
      walk_at "go"
      exact k _ (s123.trans s4)
theorem ok_takes_reason (T : Txt K mg)  (c_is_integer : Cal P w K mg base 1 "is_integer" (sp_is_integer K)) {f : Addr} {fd : FuncData} (F : FnP K "_takes_reason" s_takes_reason f fd) : FnOk P w K mg base CX0 2 f fd ["row", "reason"] (sp_takes_reason K) := by
  refine F.ok sc_takes_reason (fun vs H Q E h => ?_) (fun cdv A outer s H vs Q E hr h => ?_)
  · obtain ⟨_, _, rfl, _⟩ := h
    rfl
  · have S := sc_takes_reason
    refine ⟨_, PSs.nox (pss_cons (ps_if (pt_cmpR (op_neP hr.units) (pv 0) (pv 1) (nomark _))
    (pss_one (ps_ret pe_bl))
    pss_nil)
    (pss_one (ps_ret (pe_or (pe_cmpR op_eq (pe_callB call_len_seq (by rfl) T.f_len (by first | rfl | decide +kernel) (pa_cons (pv 0) pa_nil)) pe_int (nomark _)) (pe_one (pe_c c_is_integer hr (by decide) (by rfl) (pa_cons (pe_ix ix_tup (pv 0) pe_int (fun _ _ => rfl)) pa_nil))))))), ?_⟩
    try dsimp only [cxOf, Cx.nox]
    obtain ⟨_, _, rfl, e, g, p, r, b, rfl, hr1, hp, ⟨d, hx, hb⟩, k⟩ := h
    obtain ⟨r1, r2, r3⟩ := hr1.plain
    rcases hb with ⟨rfl, hd⟩ | ⟨rfl, d1, d2, d3⟩
    · have ed := hd.un hr1
      subst ed
      obtain ⟨s, ds, rfl, hs, hds⟩ := hr1.tup
      obtain ⟨q, xs, rfl, hq, hxs⟩ := dp_tup hx
      obtain ⟨x0, xs, rfl, hx0, hxs⟩ := dpa_cons hxs
      walk_at "go"
      refine e_nePV hx hp r1 r1 (by omega) r3 ?_
      walk_at "go"
      rcases hds with rfl | ⟨i, x, y, rfl⟩
      · cases hxs
        exact (if_pos (by exact decide_eq_true rfl)).mpr (k _ (Same.refl H))
      · obtain ⟨x1, xs, rfl, hx1, hxs⟩ := dpa_cons hxs
        have e1 := dp_int hx1
        subst e1
        rw [if_neg (by
          have l2 := dpa_len hxs
          simp at l2 ⊢
          omega)]
        walk_at "go"
        refine e_ixT hq (v := .int i) (at_of (j := 1) rfl rfl) ?_
        walk_at "go"
        exact ⟨_, rfl, .inl ⟨_, rfl, k _ (Same.refl H)⟩⟩
    · walk_at "go"
      refine e_nePV hx hp d1 r1 d2 (d3 _ hr1) ?_
      walk_at "go"
      exact k _ (Same.refl H)
theorem ok_law_draws (T : Txt K mg)   {f : Addr} {fd : FuncData} (F : FnP K "_law_draws" s_law_draws f fd) : FnOk P w K mg base CX0 1 f fd ["script"] (sp_law_draws K) := by
  refine F.ok sc_law_draws (fun vs H Q E h => ?_) (fun cdv A outer s H vs Q E hr h => ?_)
  · obtain ⟨_, rfl, _⟩ := h
    rfl
  · have S := sc_law_draws
    refine ⟨_, PSs.nox (pss_one (ps_ret (pe_lst (pa_cons (pe_callTy call_list_of (by rfl) T.f_list (by first | rfl | decide +kernel) (pa_cons (pv 0) pa_nil)) (pa_cons pe_int (pa_cons pe_int (pa_cons pe_int pa_nil))))))), ?_⟩
    try dsimp only [cxOf, Cx.nox]
    obtain ⟨_, rfl, sa, ns, rfl, hS, hl, k⟩ := h
    walk_at "go"
    intro l hl2
    walk_at "go"
    rename_i p hp
    have s1 := same_new (o := .lst (ns.map V.int)) hl2
    have s2 := same_new (o := .lst [V.ref l, V.int 0, V.int 0, V.int 1]) hp
    have np : l ≠ p := fun e => by
      rw [← e, upd_same] at hp
      cases hp
    exact k p l _ (s1.free hp) (s1.trans s2) ⟨⟨0, 0, 1, by decide, by decide, by decide, upd_same⟩, by rw [upd_ne np]; exact upd_same, np, hl⟩
theorem ok_law_draw (T : Txt K mg)   {f : Addr} {fd : FuncData} (F : FnP K "_law_draw" s_law_draw f fd) : FnOk P w K mg base CX0 1 f fd ["draws", "limit"] (sp_law_draw K) := by
  refine F.ok sc_law_draw (fun vs H Q E h => ?_) (fun cdv A outer s H vs Q E hr h => ?_)
  · obtain ⟨_, _, rfl, _⟩ := h
    rfl
  · have S := sc_law_draw
    refine ⟨_, PSs.nox (C8.pss_cut (ps_if (pw_and (pt_cmpR op_eq (pe_ix ix_list (pv 0) pe_int (fun _ _ => rfl)) pe_int (nomark _)) (pw_and1 (pt_cmpR op_lt (pe_ix ix_list (pv 0) pe_int (fun _ _ => rfl)) (pe_callB call_len_seq (by rfl) T.f_len (by first | rfl | decide +kernel) (pa_cons (pe_ix ix_list (pv 0) pe_int (fun _ _ => rfl)) pa_nil)) (nomark _)))).pt
    (pss_cons (ps_set (i := 2) S.nd rfl (by first | exact .inl rfl | exact .inr rfl) (pe_callB call_abs (by rfl) T.f_abs (by first | rfl | decide +kernel) (pa_cons (pe_callTy call_int1 (by rfl) T.f_int (by first | rfl | decide +kernel) (pa_cons (pe_ix ix_list (pe_ix ix_list (pv 0) pe_int (fun _ _ => rfl)) (pe_ix ix_list (pv 0) pe_int (fun _ _ => rfl)) (fun _ _ => rfl)) pa_nil)) pa_nil)))
      (pss_cons (ps_asg (pe_op op_add (pe_ix ix_list (pv 0) pe_int (fun _ _ => rfl)) pe_int) (pg_sub (pv 0) pe_int set_list))
      (C8.pss_cut (ps_if (pt_cmpR op_ge (pv 2) (pe_op op_pow pe_int pe_int) (nomark _))
      (pss_one (ps_asg (pv 2) (pg_sub (pv 0) pe_int set_list)))
      pss_nil)
      (pss_one (ps_asg (pe_op op_mod (pe_callTy call_int1 (by rfl) T.f_int (by first | rfl | decide +kernel) (pa_cons (pe_op op_add (pe_op op_add (pe_op op_mul (pe_ix ix_list (pv 0) pe_int (fun _ _ => rfl)) pe_int) (pv 2)) pe_int) pa_nil)) pe_int) (pg_sub (pv 0) pe_int set_list))))))
    pss_nil)
    (pss_cons (ps_if (pt_cmpR op_gt (pe_ix ix_list (pv 0) pe_int (fun _ _ => rfl)) pe_int (nomark _))
    (pss_cons (ps_set (i := 3) S.nd rfl (by first | exact .inl rfl | exact .inr rfl) (pe_op op_mod (pe_callTy call_int1 (by rfl) T.f_int (by first | rfl | decide +kernel) (pa_cons (pe_ix ix_list (pv 0) pe_int (fun _ _ => rfl)) pa_nil)) (pv 1)))
      (pss_cons (ps_asg (pe_op op_fdivW (pe_ix ix_list (pv 0) pe_int (fun _ _ => rfl)) (pv 1)) (pg_sub (pv 0) pe_int set_list))
      (pss_one (ps_ret (pv 3)))))
    pss_nil)
    (pss_cons (ps_asg (pe_op op_mod (pe_callTy call_int1 (by rfl) T.f_int (by first | rfl | decide +kernel) (pa_cons (pe_op op_add (pe_op op_mul (pe_ix ix_list (pv 0) pe_int (fun _ _ => rfl)) pe_int) pe_int) pa_nil)) pe_int) (pg_sub (pv 0) pe_int set_list))
    (pss_one (ps_ret (pe_op op_mod (pe_callTy call_int1 (by rfl) T.f_int (by first | rfl | decide +kernel) (pa_cons (pe_op op_fdivW (pe_ix ix_list (pv 0) pe_int (fun _ _ => rfl)) pe_int) pa_nil)) (pv 1))))))), ?_⟩
    try dsimp only [cxOf, Cx.nox]
    obtain ⟨_, _, rfl, st, sc, ns, n, rfl, rfl, d, hn0, hn1, k⟩ := h
    obtain ⟨ia, ib, ic, ha0, hb0, hc0, hs⟩ := d.s
    have h1 : ∀ (x y z : Int), 0 ≤ x → 0 ≤ y → 0 ≤ z → z < 2147483647 → Kp st H (upd H st (.lst [.ref sc, .int x, .int y, .int z])) ∧ Dw K st sc ns (upd H st (.lst [.ref sc, .int x, .int y, .int z])) := fun x y z hx hy hz hz2 =>
      have k1 : Kp st H (upd H st (.lst [.ref sc, .int x, .int y, .int z])) := Kp.put (Kp.refl st H)
      ⟨k1, d.kp k1 ⟨x, y, z, hx, hy, ⟨hz, hz2⟩, upd_same⟩⟩
    have hS : SqL K H sc (ns.map V.int) := SqL.of d.l
    have md : ∀ x : Int, 0 ≤ x % 2147483647 ∧ x % 2147483647 < 2147483647 := fun x => ⟨Int.emod_nonneg _ (by decide), Int.emod_lt_of_pos _ (by decide)⟩
    have md2 : ∀ x : Int, 0 ≤ x % 2147483629 ∧ x % 2147483629 < 2147483629 := fun x => ⟨Int.emod_nonneg _ (by decide), Int.emod_lt_of_pos _ (by decide)⟩
    refine e_cut (Mid := fun σ' H' => ∃ (v2 : Option V), σ' = [some (.ref st), some (.int n), v2, none] ∧ Kp st H H' ∧ Dw K st sc ns H') ?_ ?_
    · walk_at "go"
      refine e_ixL (SqL.of hs) rfl ?_
      walk_at "go"
      refine i_d (fun e1 => ?_) (fun e1 => ?_)
      · walk_at "go"
        refine e_ixL (SqL.of hs) rfl ?_
        walk_at "go"
        refine e_ixL (SqL.of hs) rfl ?_
        walk_at "go"
        refine i_d (fun e2 => ?_) (fun e2 => ?_)
        · obtain ⟨j, hj⟩ : ∃ j : Nat, ia = (j : Int) := ⟨ia.toNat, by omega⟩
          have hlt : j < ns.length := by rw [List.length_map] at e2; omega
          have hat : atI (ns.map V.int) ia = some (.int ns[j]) := at_of (j := j) (by omega) (by rw [List.getElem?_map, List.getElem?_eq_getElem hlt]; rfl)
          generalize ns[j] = x at hat
          walk_at "go"
          refine e_ixL (SqL.of hs) rfl ?_
          walk_at "go"
          refine e_ixL (SqL.of hs) rfl ?_
          walk_at "go"
          refine e_ixL hS hat ?_
          walk_at "go"
          have hcell : ∃ c : Int, 0 ≤ c ∧ c = (if x < 0 then -x else x) := ⟨_, by split <;> omega, rfl⟩
          obtain ⟨c, hc, ec⟩ := hcell
          rw [← ec]
          refine e_ixL (SqL.of hs) rfl ?_
          walk_at "go"
          refine e_setL hs rfl ?_
          refine e_cut (Mid := fun σ' H' => ∃ b : Int, 0 ≤ b ∧ σ' = [some (.ref st), some (.int n), some (.int c), none] ∧ H' = upd H st (.lst [.ref sc, .int (ia + 1), .int b, .int ic])) ?_ ?_
          · walk_at "go"
            refine i_d (fun e3 => ?_) (fun e3 => ?_)
            · walk_at "go"
              refine e_setL upd_same rfl ?_
              rw [upd_upd]
              exact ⟨c, hc, rfl, rfl⟩
            · walk_at "go"
              exact ⟨ib, hb0, rfl, rfl⟩
          · rintro σ' H' ⟨b, hb, rfl, rfl⟩
            walk_at "go"
            refine e_ixL (SqL.of upd_same) rfl ?_
            walk_at "go"
            refine e_setL upd_same rfl ?_
            rw [upd_upd]
            have hm := md (ic * 48271 + c + 13)
            obtain ⟨k1, d1⟩ := h1 (ia + 1) b _ (by omega) hb hm.1 hm.2
            exact ⟨_, rfl, k1, d1⟩
        · walk_at "go"
          exact ⟨_, rfl, Kp.refl _ _, d⟩
      · walk_at "go"
        exact ⟨_, rfl, Kp.refl _ _, d⟩
    · rintro σ' H' ⟨v2, rfl, k1, d1⟩
      obtain ⟨ja, jb, jc, hja, hjb, hjc, hs1⟩ := d1.s
      walk_at "go"
      refine e_ixL (SqL.of hs1) rfl ?_
      walk_at "go"
      refine i_d (fun e1 => ?_) (fun e1 => ?_)
      · walk_at "go"
        refine e_ixL (SqL.of hs1) rfl ?_
        walk_at "go"
        refine e_ixL (SqL.of hs1) rfl ?_
        walk_at "go"
        refine e_setL hs1 rfl ?_
        have hj2 : 0 ≤ jb / n := Int.ediv_nonneg hjb (by omega)
        have k2 : Kp st H (upd H' st (.lst [.ref sc, .int ja, .int (jb / n), .int jc])) := k1.put
        walk_at "go"
        exact k _ _ (Int.emod_nonneg _ (by omega)) (Int.emod_lt_of_pos _ hn0) k2 (d.kp k2 ⟨ja, jb / n, jc, hja, hj2, hjc, upd_same⟩)
      · walk_at "go"
        refine e_ixL (SqL.of hs1) rfl ?_
        walk_at "go"
        refine e_setL hs1 rfl ?_
        have hm := md2 (jc * 69621 + 7)
        have k2 : Kp st H (upd H' st (.lst [.ref sc, .int ja, .int jb, .int ((jc * 69621 + 7) % 2147483629)])) := k1.put
        walk_at "go"
        refine e_ixL (SqL.of upd_same) rfl ?_
        walk_at "go"
        exact k _ _ (Int.emod_nonneg _ (by omega)) (Int.emod_lt_of_pos _ hn0) k2 (d.kp k2 ⟨ja, jb, _, hja, hjb, ⟨hm.1, by omega⟩, upd_same⟩)
theorem ok_law_vector (T : Txt K mg)  (c_law_draw : Cal P w K mg base 1 "_law_draw" (sp_law_draw K)) {f : Addr} {fd : FuncData} (F : FnP K "_law_vector" s_law_vector f fd) : FnOk P w K mg base CX0 2 f fd ["draws"] (sp_law_vector K) := by
  refine F.ok sc_law_vector (fun vs H Q E h => ?_) (fun cdv A outer s H vs Q E hr h => ?_)
  · obtain ⟨_, rfl, _⟩ := h
    rfl
  · have S := sc_law_vector
    refine ⟨_, PSs.nox (pss_cons (ps_setLc (i := 1) (own := [("device", 2)]) (g := gName 2) rfl S.nd rfl rfl (sw_true rfl rfl rfl (by decide +kernel)) (pi_tup (pe_tup (pa_cons pe_int (pa_cons pe_int (pa_cons pe_int pa_nil))))) (blkOk_by (N := N_law_vector) (sc := defScope s_law_vector) (by decide +kernel)) (fun _ _ _ _ _ => (pg_name (i := 2) S.nd rfl (by first | exact .inl rfl | exact .inr rfl))) (fun _ _ _ _ _ => (pts_one (pt_cmpR op_eq (pe_c c_law_draw hr (by decide) (by rfl) (pa_cons (pv 0) (pa_cons pe_int pa_nil))) pe_int (nomark _)))) (fun _ _ _ _ _ => (pe_tup (pa_cons (pv 2) (pa_cons (pe_op op_add pe_int (pe_c c_law_draw hr (by decide) (by rfl) (pa_cons (pv 0) (pa_cons pe_int pa_nil)))) pa_nil)))))
    (pss_one (ps_ret (pe_callTy call_tupleF (by rfl) T.f_tuple (by first | rfl | decide +kernel) (pa_cons (pe_op op_cat (pv 1) (pe_slice sl_list (pe_lst (pa_cons (pe_tup (pa_cons pe_int (pa_cons pe_int pa_nil))) pa_nil)) po_none (po_some (pe_callTy call_int1 (by rfl) T.f_int (by first | rfl | decide +kernel) (pa_cons (pe_cmpR op_eq (pe_callB call_len_seq (by rfl) T.f_len (by first | rfl | decide +kernel) (pa_cons (pv 1) pa_nil)) pe_int (nomark _)) pa_nil))))) pa_nil))))), ?_⟩
    try dsimp only [cxOf, Cx.nox]
    obtain ⟨_, rfl, st, sc, ns, rfl, d0, k⟩ := h
    walk_at "go"
    rename_i p0 hp0
    have s0 := same_new (o := .tup [V.int 1, V.int 2, V.int 9]) hp0
    have eT : upd H p0 (.tup [V.int 1, V.int 2, V.int 9]) p0 = some (.tup [V.int 1, V.int 2, V.int 9]) := upd_same
    have d1 := d0.same s0
    generalize upd H p0 (.tup [V.int 1, V.int 2, V.int 9]) = H1 at *
    intro D hD
    have nD := d1.free hD
    refine lc_it (walk_tup (K := K) (xs := [V.int 1, V.int 2, V.int 9])) (fun i H2 => Kp st H1 H2 ∧ Dw K st sc ns H2 ∧ ∃ (ps : List Addr) (f : Nat → Int), H2 D = some (.lst (ps.map V.ref)) ∧ ps.length ≤ i ∧ (∀ k, 0 ≤ f k) ∧ (∀ k, k ≥ (if i = 3 then 9 else i) → f k = 0) ∧ Prx H2 ps (made f)) ⟨Kp.new hD, d1.same (same_new hD), [], fun _ => 0, upd_same, Nat.le_refl _, fun _ => Int.le_refl _, fun _ _ => rfl, by rw [made_zero]; exact .nil⟩ (fun i H2 hi q => SqT.of (q.1 _ _ (fun z => by rw [z] at eT; obtain ⟨_, _, _, _, _, _, e3⟩ := d1.s; rw [e3] at eT; cases eT) eT)) (fun i x H2 H2' hi q hy => ?_) (fun H2 q => ?_)
    · obtain ⟨rfl, hx⟩ := hy
      obtain ⟨k2, d2, ps, f, e2, l2, f0, fz, q2⟩ := q
      obtain ⟨c, rfl, hc, hcz, hcn⟩ : ∃ c : Nat, x = .int ((c : Int) + 1) ∧ c < 9 ∧ (∀ k, k ≥ c → f k = 0) ∧ c < (if i + 1 = 3 then 9 else i + 1) := by
        have h3 : i = 0 ∨ i = 1 ∨ i = 2 := by
          have : i < 3 := hi
          omega
        rcases h3 with h3 | h3 | h3 <;> subst h3 <;> cases hx
        · exact ⟨0, rfl, by decide, fz, by decide⟩
        · exact ⟨1, rfl, by decide, fz, by decide⟩
        · exact ⟨8, rfl, by decide, fun k hk => fz k (by rw [if_neg (by decide)]; omega), by decide⟩
      have hcm : ∀ k, (k ≥ if i + 1 = 3 then 9 else i + 1) → k ≥ c ∧ k ≠ c := fun k hk => by
        constructor <;> omega
      clear hx
      walk_at "go"
      refine ⟨_, _, rfl, st, sc, ns, 2, rfl, rfl, d2, by decide, by decide, fun z H3 hz0 hz1 k3 d3 => ?_⟩
      obtain ⟨l0, el0⟩ := dw_st d2
      have e3 := k3 _ _ nD e2
      have q3 := q2.kp k3 el0
      walk_at "go"
      refine i_d (fun h1 => ?_) (fun h1 => ?_)
      · walk_at "go"
        refine ⟨_, _, rfl, st, sc, ns, 3, rfl, rfl, d3, by decide, by decide, fun y H4 hy0 hy1 k4 d4 => ?_⟩
        obtain ⟨l1, el1⟩ := dw_st d3
        have e4 := k4 _ _ nD e3
        have q4 := q3.kp k4 el1
        walk_at "go"
        rename_i t ht
        have s5 := same_new (o := .tup [.int ((c : Int) + 1), .int (1 + y)]) ht
        have n1 : t ≠ D := fun z => by
          rw [z, e4] at ht
          cases ht
        have kk := ((k2.trans k3).trans k4).trans (Kp.of s5)
        refine ⟨_, s5 _ _ e4, Nat.lt_of_le_of_lt (by rw [List.length_map]; have : i < 3 := hi; omega : _ ≤ 1000000) (by decide), kk.mut hD, Dw.mut d1 (d4.same s5) hD kk, ps ++ [t], fun k => if k = c then 1 + y else f k, by rw [upd_same, List.map_append]; rfl, by rw [List.length_append]; simp; omega, fun k => ?_, fun k hk => ?_, ?_⟩
        · show 0 ≤ if k = c then 1 + y else f k
          have := f0 k
          split <;> omega
        · show (if k = c then 1 + y else f k) = 0
          rw [if_neg (hcm k hk).2]
          exact hcz k (hcm k hk).1
        · rw [made_snoc hc hcz (by omega)]
          refine paired_snoc ((q4.same s5).upd (s5 _ _ e4)) ?_
          show (upd _ D _) t = _
          rw [upd_ne n1, upd_same]
      · exact ⟨k2.trans k3, d3, ps, f, e3, by omega, f0, fun k hk => hcz k (hcm k hk).1, q3⟩
    · obtain ⟨k2, d2, ps, f, e2, l2, f0, fz, q2⟩ := q
      obtain ⟨l0, el0⟩ := dw_st d2
      walk_at "go"
      rename_i p5 hp5 pl hpl
      have s5 := same_new (o := .tup [V.int 5, V.int 2]) hp5
      have s6 := same_new (o := .lst [V.ref p5]) hpl
      have e5 := (s5.trans s6) _ _ e2
      have h5 : upd (upd H2 p5 (.tup [V.int 5, V.int 2])) pl (.lst [V.ref p5]) p5 = some (.tup [V.int 5, V.int 2]) := s6 _ _ upd_same
      have hl5 : upd (upd H2 p5 (.tup [V.int 5, V.int 2])) pl (.lst [V.ref p5]) pl = some (.lst [V.ref p5]) := upd_same
      have s56 := s5.trans s6
      generalize upd (upd H2 p5 (.tup [V.int 5, V.int 2])) pl (.lst [V.ref p5]) = H5 at *
      have q5 := q2.same s56
      refine ⟨D, _, rfl, .inl (SqL.of e5), ?_⟩
      walk_at "go"
      refine .inr ⟨_, rfl, _, rfl, ?_⟩
      rcases ps with _ | ⟨t, ps⟩
      · have em : made f = [] := by
          generalize made f = v at q5
          cases q5
          rfl
        have e5 : H5 D = some (.lst []) := e5
        refine e_slL (SqL.of hl5) fun q6 hq6 => ?_
        have ec : cutV [V.ref p5] none (some (if decide (((([] : List Addr).map V.ref).length : Int) = 0) = true then 1 else 0)) = [V.ref p5] := rfl
        rw [ec]
        have s7 := same_new (o := .lst [V.ref p5]) hq6
        refine e_cat (xs := []) (ys := [V.ref p5]) (s7 _ _ e5) upd_same (by show 1 ≤ 100000; decide) fun p7 hp7 => ?_
        have el : ([] : List V) ++ [V.ref p5] = [V.ref p5] := rfl
        rw [el]
        have s8 := same_new (o := .lst [V.ref p5]) hp7
        walk_at "go"
        intro l H6 hl s9 hp9 _
        have s59 := (s7.trans s8).trans s9
        refine k l (fun k => if k = 4 then 2 else 0) H6 ((((Kp.of s0).trans k2).trans (Kp.of s56)).trans (Kp.of s59)) ((d2.same s56).same s59) (fun k => by show 0 ≤ if k = 4 then (2 : Int) else 0; split <;> decide) (pvec_hid (dw_nt ((d2.same s56).same s59)) ?_)
        rw [made_one (by decide) (by decide)]
        exact ⟨[p5], hp9, .cons (SqT.of (s59 _ _ h5)) .nil⟩
      · refine e_slL (SqL.of hl5) fun q6 hq6 => ?_
        have ec : cutV [V.ref p5] none (some (if decide ((((t :: ps).map V.ref).length : Int) = 0) = true then 1 else 0)) = [] := by
          rw [if_neg (by simp; omega)]
          rfl
        rw [ec]
        have s7 := same_new (o := .lst []) hq6
        refine e_cat (ys := []) (s7 _ _ e5) upd_same (Nat.le_trans (by rw [List.length_map]; show _ ≤ 3; exact l2) (by decide)) fun p7 hp7 => ?_
        rw [List.append_nil]
        have s8 := same_new (o := .lst ((t :: ps).map V.ref)) hp7
        walk_at "go"
        intro l H6 hl s9 hp9 _
        have s59 := (s7.trans s8).trans s9
        exact k l f H6 ((((Kp.of s0).trans k2).trans (Kp.of s56)).trans (Kp.of s59)) ((d2.same s56).same s59) f0 (pvec_hid (dw_nt ((d2.same s56).same s59)) ⟨t :: ps, hp9, (q5.same s59).prs⟩)
theorem ok_law_entry (T : Txt K mg) (c_Entry : C8.Mak P w K mg base 1 "Entry" (He.ga K "Entry") (sp_Entry___init__ K) [])  (c_law_draw : Cal P w K mg base 1 "_law_draw" (sp_law_draw K)) (c_law_vector : Cal P w K mg base 2 "_law_vector" (sp_law_vector K)) {f : Addr} {fd : FuncData} (F : FnP K "_law_entry" s_law_entry f fd) : FnOk P w K mg base CX0 3 f fd ["draws"] (sp_law_entry K) := by
  refine F.ok sc_law_entry (fun vs H Q E h => ?_) (fun cdv A outer s H vs Q E hr h => ?_)
  · obtain ⟨_, rfl, _⟩ := h
    rfl
  · have S := sc_law_entry
    refine ⟨_, PSs.nox (pss_cons (ps_set (i := 1) S.nd rfl (by first | exact .inl rfl | exact .inr rfl) (pe_op op_add pe_int (pe_c c_law_draw hr (by decide) (by rfl) (pa_cons (pv 0) (pa_cons pe_int pa_nil)))))
    (pss_cons (ps_set (i := 2) S.nd rfl (by first | exact .inl rfl | exact .inr rfl) (pe_tupP (pa_cons (pe_op op_add pe_int (pe_c c_law_draw hr (by decide) (by rfl) (pa_cons (pv 0) (pa_cons pe_int pa_nil)))) (pa_cons (pe_op op_add pe_int (pe_c c_law_draw hr (by decide) (by rfl) (pa_cons (pv 0) (pa_cons pe_int pa_nil)))) pa_nil))))
    (pss_cons (ps_if (pt_cmpR op_eq (pe_c c_law_draw hr (by decide) (by rfl) (pa_cons (pv 0) (pa_cons pe_int pa_nil))) pe_int (nomark _))
    (pss_one (ps_ret (C8.pe_mk c_Entry hr (by decide) (by rfl) (pa_cons pe_str (pa_cons (pe_c c_law_vector hr (by decide) (by rfl) (pa_cons (pv 0) pa_nil)) (pa_cons (pv 1) (pa_cons (pv 2) (pa_cons pe_bl (pa_cons (pe_c c_law_draw hr (by decide) (by rfl) (pa_cons (pv 0) (pa_cons pe_int pa_nil))) (pa_cons (pe_tupP pa_nil) pa_nil))))))))))
    pss_nil)
    (pss_cons (ps_set (i := 3) S.nd rfl (by first | exact .inl rfl | exact .inr rfl) (pe_ix ix_list (pe_lst (pa_cons (pe_tupP pa_nil) (pa_cons (pe_tupP (pa_cons pe_int pa_nil)) (pa_cons (pe_tupP (pa_cons pe_int pa_nil)) (pa_cons (pe_tupP (pa_cons pe_int (pa_cons pe_int pa_nil))) pa_nil))))) (pe_c c_law_draw hr (by decide) (by rfl) (pa_cons (pv 0) (pa_cons pe_int pa_nil))) (fun _ _ => rfl)))
    (pss_one (ps_ret (C8.pe_mk c_Entry hr (by decide) (by rfl) (pa_cons pe_str (pa_cons (pe_c c_law_vector hr (by decide) (by rfl) (pa_cons (pv 0) pa_nil)) (pa_cons (pv 1) (pa_cons (pv 2) (pa_cons pe_bl (pa_cons (pe_c c_law_draw hr (by decide) (by rfl) (pa_cons (pv 0) (pa_cons pe_int pa_nil))) (pa_cons (pv 3) pa_nil)))))))))))))), ?_⟩
    try dsimp only [cxOf, Cx.nox]
    have t : ET K := ⟨T.cl_Entry, T.no_Entry_name, T.no_Entry_vector, T.no_Entry_height, T.no_Entry_maker, T.no_Entry_deleted, T.no_Entry_time, T.no_Entry_blocks⟩
    obtain ⟨_, rfl, st, sc, ns, rfl, d0, k⟩ := h
    walk_at "go"
    refine ⟨_, _, rfl, st, sc, ns, 2, rfl, rfl, d0, by decide, by decide, fun c1 H1 q1 r1 k1 d1 => ?_⟩
    walk_at "go"
    refine ⟨_, _, rfl, st, sc, ns, 2, rfl, rfl, d1, by decide, by decide, fun c2 H2 q2 r2 k2 d2 => ?_⟩
    walk_at "go"
    refine ⟨_, _, rfl, st, sc, ns, 2, rfl, rfl, d2, by decide, by decide, fun c3 H3 q3 r3 k3 d3 => ?_⟩
    walk_at "go"
    rename_i p4 H4
    intro hp4 s4 e4 _
    have d4 := d3.same s4
    have k4 := ((k1.trans k2).trans k3).trans (Kp.of s4)
    walk_at "go"
    refine ⟨_, _, rfl, st, sc, ns, 4, rfl, rfl, d4, by decide, by decide, fun c5 H5 q5 r5 k5 d5 => ?_⟩
    have m5 : SqT K (hid [st] H4) p4 _ := sqT_hid e4.seq (dw_nt d4)
    have m6 := same_tup (kp_same k5) m5
    walk_at "go"
    refine i_d (fun h1 => ?_) (fun h1 => ?_)
    · walk_at "go"
      refine ⟨_, rfl, st, sc, ns, rfl, d5, fun v f H6 k6 d6 f0 hv => ?_⟩
      walk_at "go"
      refine ⟨_, _, rfl, st, sc, ns, 2, rfl, rfl, d6, by decide, by decide, fun c7 H7 q7 r7 k7 d7 => ?_⟩
      walk_at "go"
      rename_i p8 H8
      intro hp8 s8 e8 _
      have d8 := d7.same s8
      have m8 : SqT K (hid [st] H8) p8 [] := sqT_hid e8.seq (dw_nt d8)
      walk_at "go"
      refine e_mkE fun r H9 dx hr s9 hi => ?_
      walk_at "go"
      have d9 := d8.same s9
      have k79 := (k7.trans (Kp.of s8)).trans (Kp.of s9)
      have nr : r ∉ [st] := fun m => by
        obtain ⟨l0, e0⟩ := dw_st d9
        rw [List.mem_singleton.mp m, e0] at hi
        cases hi
      exact k r ⟨"a", f, 1 + c1, (1 + c2, 1 + c3), true, c7, []⟩ H9 (((k4.trans k5).trans k6).trans k79) d9 f0 (ent_made (dx := dx) (v := v) (m := p4) (b := p8) ⟨"a", f, 1 + c1, (1 + c2, 1 + c3), true, c7, []⟩ (by rw [hid_at nr]; exact hi) (.of (hv.same (kp_same k79))) (same_tup (kp_same (k6.trans k79)) m6) (same_tup (hid_same s9) m8))
    · walk_at "go"
      rename_i b0 G0
      intro hb0 sb0 eb0 _
      walk_at "go"
      rename_i b1 G1
      intro hb1 sb1 eb1 _
      walk_at "go"
      rename_i b2 G2
      intro hb2 sb2 eb2 _
      walk_at "go"
      rename_i b3 G3
      intro hb3 sb3 eb3 _
      walk_at "go"
      rename_i L hL
      have sL := same_new (o := .lst [V.ref b0, V.ref b1, V.ref b2, V.ref b3]) hL
      have s15 := ((sb0.trans sb1).trans sb2).trans sb3
      have d6 := d5.same (s15.trans sL)
      have eL : upd G3 L (.lst [V.ref b0, V.ref b1, V.ref b2, V.ref b3]) L = some (.lst [V.ref b0, V.ref b1, V.ref b2, V.ref b3]) := upd_same
      have nL : L ≠ st := (d5.same s15).free hL
      have t0 := ((eb0.same ((sb1.trans sb2).trans sb3)).same sL).seq (K := K)
      have t1 := ((eb1.same (sb2.trans sb3)).same sL).seq (K := K)
      have t2 := ((eb2.same sb3).same sL).seq (K := K)
      have t3 := (eb3.same sL).seq (K := K)
      generalize upd G3 L (.lst [V.ref b0, V.ref b1, V.ref b2, V.ref b3]) = G4 at *
      refine ⟨_, _, rfl, st, sc, ns, 4, rfl, rfl, d6, by decide, by decide, fun c6 H6 q6 r6 k6 d7 => ?_⟩
      have eL6 := k6 _ _ nL eL
      obtain ⟨bb, bs, hat, hbs⟩ : ∃ (bb : Addr) (bs : List Int), atI [V.ref b0, V.ref b1, V.ref b2, V.ref b3] c6 = some (.ref bb) ∧ SqT K G4 bb (bs.map V.int) := by
        have h4 : c6 = 0 ∨ c6 = 1 ∨ c6 = 2 ∨ c6 = 3 := by omega
        rcases h4 with h4 | h4 | h4 | h4 <;> rw [h4]
        · exact ⟨b0, [], rfl, t0⟩
        · exact ⟨b1, [257], rfl, t1⟩
        · exact ⟨b2, [258], rfl, t2⟩
        · exact ⟨b3, [4311876356, 511], rfl, t3⟩
      walk_at "go"
      refine e_ixL (SqL.of eL6) hat ?_
      walk_at "go"
      refine ⟨_, rfl, st, sc, ns, rfl, d7, fun v f H7 k7 d8 f0 hv => ?_⟩
      walk_at "go"
      refine ⟨_, _, rfl, st, sc, ns, 2, rfl, rfl, d8, by decide, by decide, fun c8 H8 q8 r8 k8 d9 => ?_⟩
      walk_at "go"
      refine e_mkE fun r H9 dx hr s9 hi => ?_
      walk_at "go"
      have d10 := d9.same s9
      have k89 := k8.trans (Kp.of s9)
      have nr : r ∉ [st] := fun m => by
        obtain ⟨l0, e0⟩ := dw_st d10
        rw [List.mem_singleton.mp m, e0] at hi
        cases hi
      have k46 := (Kp.of (st := st) (s15.trans sL)).trans k6
      exact k r ⟨"a", f, 1 + c1, (1 + c2, 1 + c3), false, c8, bs⟩ H9 (((k4.trans k5).trans (k46.trans k7)).trans k89) d10 f0 (ent_made (dx := dx) (v := v) (m := p4) (b := bb) ⟨"a", f, 1 + c1, (1 + c2, 1 + c3), false, c8, bs⟩ (by rw [hid_at nr]; exact hi) (.of (hv.same (kp_same k89))) (same_tup (kp_same ((k46.trans k7).trans k89)) m6) (same_tup (kp_same ((k6.trans k7).trans k89)) (sqT_hid hbs (dw_nt d6))))
theorem ok_law_key (T : Txt K mg)   {f : Addr} {fd : FuncData} (F : FnP K "_law_key" s_law_key f fd) : FnOk P w K mg base CX0 1 f fd ["entry"] (sp_law_key K) := by
  refine F.ok sc_law_key (fun vs H Q E h => ?_) (fun cdv A outer s H vs Q E hr h => ?_)
  · obtain ⟨_, rfl, _⟩ := h
    rfl
  · have S := sc_law_key
    refine ⟨_, PSs.nox (pss_cons (ps_set (i := 1) S.nd rfl (by first | exact .inl rfl | exact .inr rfl) (pe_callTy (call_dictPT rfl) (by rfl) T.f_dict (by first | rfl | decide +kernel) (pa_cons (pe_fld (pv 0) rfl) pa_nil)))
    (pss_cons (ps_set (i := 2) S.nd rfl (by first | exact .inl rfl | exact .inr rfl) (pe_callTy call_tupleF (by rfl) T.f_tuple (by first | rfl | decide +kernel) (pa_cons (pe_lc (own := [("device", 3)]) (g := gName 3) (tt := tYes) rfl S.nd (pi_range2 (by rfl) T.f_range (pa_cons pe_int (pa_cons pe_int pa_nil))) (blkOk_by (N := N_law_key) (sc := defScope s_law_key) (by decide +kernel)) (fun _ _ _ _ _ => (pg_name (i := 3) S.nd rfl (by first | exact .inl rfl | exact .inr rfl))) (fun _ _ _ _ _ => pts_nil) (fun _ _ _ _ _ => (pe_dget2 (hu_of hr) (pv 1) (pv 3) pe_int ⟨by rfl, by rfl, by rfl, by rfl⟩))) pa_nil)))
    (pss_one (ps_ret (pe_tup (pa_cons (pe_fld (pv 0) rfl) (pa_cons (pe_fld (pv 0) rfl) (pa_cons (pe_callTy call_int1 (by rfl) T.f_int (by first | rfl | decide +kernel) (pa_cons (pe_not (pe_fld (pv 0) rfl)) pa_nil)) (pa_cons (pe_un un_neg (pe_ix ix_tup (pe_fld (pv 0) rfl) pe_int (fun _ _ => rfl))) (pa_cons (pe_un un_neg (pe_ix ix_tup (pe_fld (pv 0) rfl) pe_int (fun _ _ => rfl))) (pa_cons (pv 2) pa_nil))))))))))), ?_⟩
    try dsimp only [cxOf, Cx.nox]
    have t : ET K := ⟨T.cl_Entry, T.no_Entry_name, T.no_Entry_vector, T.no_Entry_height, T.no_Entry_maker, T.no_Entry_deleted, T.no_Entry_time, T.no_Entry_blocks⟩
    obtain ⟨_, rfl, a, e, rfl, hE, hf, k⟩ := h
    obtain ⟨dx, v, m, b, fs, f1, f2, hv, hm, hb⟩ := id hE
    obtain ⟨ps, hS, hP⟩ := hv.2 rfl
    obtain ⟨m0, em, gm, lm, cm⟩ := dict_made hf
    replace hE := And.intro trivial hE
    walk_at "go"
    refine ⟨a, _, dx, fs, _, rfl, f1, t.cl, t.n2, f2.2.1, ?_⟩
    walk_at "go"
    refine ⟨v, ps, kvl (made e.f), rfl, hS, prs_kvl hP, fun D hD => ?_⟩
    rw [em]
    have sD := same_new (o := .dK (kvl m0)) hD
    have hE1 := hE.2.same sD
    have eD : upd H D (.dK (kvl m0)) D = some (.dK (kvl m0)) := upd_same
    generalize upd H D (.dK (kvl m0)) = H1 at *
    clear hE
    walk_at "go"
    intro D2 hD2
    refine lc_map_rng hD2 (by decide) (fun i => .int (e.f i)) (fun i H2 C E hi s2 hC => ?_) (fun H2 s2 e2 => ?_)
    · have hi : i < 9 := hi
      have e3 := s2 _ _ eD
      walk_at "go"
      refine ⟨D, rfl, .inl ⟨_, .inl e3⟩, ?_⟩
      walk_at "go"
      refine dg_or e3 fun o eo => ?_
      rw [show (1 + (i : Int)) = ((i : Nat) : Int) + 1 from by omega, cm i hi] at eo
      rw [eo]
      exact hC H2 (Same.refl H2)
    walk_at "go"
    intro l H3 hl s3 hp3 _
    have hE3 := (hE1.same s2).same s3
    have hm3 := same_tup ((sD.trans s2).trans s3) hm
    walk_at "go"
    refine .inr ⟨_, rfl, ?_⟩
    walk_at "go"
    rename_i m1 hm1
    refine e_ixT hm1 (v := .int e.mr.1) (at_of (j := 0) rfl rfl) ?_
    walk_at "go"
    rename_i m2 hm2
    refine e_ixT hm2 (v := .int e.mr.2) (at_of (j := 1) rfl rfl) ?_
    walk_at "go"
    rename_i r hr
    have eb : (if (!e.dl) = true then (1 : Int) else 0) = if e.dl = true then 0 else 1 := by cases e.dl <;> rfl
    have er : (row9 e.f).map V.int = (List.range (10 - 1 : Int).toNat).map fun i => V.int (e.f i) := by unfold row9; rw [List.map_map]; rfl
    refine k r _ (((sD.trans s2).trans s3).trans (same_new hr)) ⟨l, ?_, ?_⟩
    · rw [← eb]
      exact SqT.of upd_same
    · rw [er]
      exact same_tup (same_new hr) hp3.seq
theorem ok_law_alike (T : Txt K mg)   {f : Addr} {fd : FuncData} (F : FnP K "_law_alike" s_law_alike f fd) : FnOk P w K mg base CX0 1 f fd ["first", "second"] (sp_law_alike K) := by
  refine F.ok sc_law_alike (fun vs H Q E h => ?_) (fun cdv A outer s H vs Q E hr h => ?_)
  · obtain ⟨_, _, rfl, _⟩ := h
    rfl
  · have S := sc_law_alike
    refine ⟨_, PSs.nox (pss_one (ps_ret (pe_and (pe_cmpR op_eq (pe_fld (pv 0) rfl) (pe_fld (pv 1) rfl) (nomark _)) (pe_one (pe_cmpR (op_eqP hr.units) (pe_fld (pv 0) rfl) (pe_fld (pv 1) rfl) (nomark _)))))), ?_⟩
    try dsimp only [cxOf, Cx.nox]
    have t : ET K := ⟨T.cl_Entry, T.no_Entry_name, T.no_Entry_vector, T.no_Entry_height, T.no_Entry_maker, T.no_Entry_deleted, T.no_Entry_time, T.no_Entry_blocks⟩
    obtain ⟨_, _, rfl, a, b, p, p2, e, g, rfl, rfl, hE, hG, k⟩ := h
    unfold alk at k
    walk_at "go"
    generalize (e.dl == g.dl) = d1 at k ⊢
    cases d1
    · walk_at "go"
      exact k
    walk_at "go"
    rename_i v1 w1 v2 w2
    refine e_eqPT w1 w2 ?_
    walk_at "go"
    exact k
theorem ok_law_due (T : Txt K mg)  (c_law_key : Cal P w K mg base 1 "_law_key" (sp_law_key K)) (c_law_alike : Cal P w K mg base 1 "_law_alike" (sp_law_alike K)) {f : Addr} {fd : FuncData} (F : FnP K "_law_due" s_law_due f fd) : FnOk P w K mg base CX0 2 f fd ["entries"] (sp_law_due K) := by
  refine F.ok sc_law_due (fun vs H Q E h => ?_) (fun cdv A outer s H vs Q E hr h => ?_)
  · obtain ⟨_, rfl, _⟩ := h
    rfl
  · have S := sc_law_due
    refine ⟨_, PSs.nox (pss_cons (ps_set (i := 1) S.nd rfl (by first | exact .inl rfl | exact .inr rfl) (pe_lc (own := [("entry", 6)]) (g := gName 6) (tt := tYes) rfl S.nd (pi_list (pv 0)) (blkOk_by (N := N_law_due) (sc := defScope s_law_due) (by decide +kernel)) (fun _ _ _ _ _ => (pg_name (i := 6) S.nd rfl (by first | exact .inl rfl | exact .inr rfl))) (fun _ _ _ _ _ => pts_nil) (fun _ _ _ _ _ => (pe_c c_law_key hr (by decide) (by rfl) (pa_cons (pv 6) pa_nil)))))
    (pss_cons (ps_set (i := 2) S.nd rfl (by first | exact .inl rfl | exact .inr rfl) (pe_callB (cr_min rfl) (by rfl) T.f_min (by first | rfl | decide +kernel) (pa_cons (pe_lc (own := [("k", 4)]) (g := gName 4) rfl S.nd (pi_range1 (by rfl) T.f_range (pa_cons (pe_callB call_len_seq (by rfl) T.f_len (by first | rfl | decide +kernel) (pa_cons (pv 1) pa_nil)) pa_nil)) (blkOk_by (N := N_law_due) (sc := defScope s_law_due) (by decide +kernel)) (fun _ _ _ _ _ => (pg_name (i := 4) S.nd rfl (by first | exact .inl rfl | exact .inr rfl))) (fun _ _ _ _ _ => (pts_one (pt_cmpR (ePK K hr.units) (pe_ix (ixL K) (pv 1) (pv 4) (fun _ _ => rfl)) (pe_callB (cr_maxDK K rfl hr.units) (by rfl) T.f_max (by first | rfl | decide +kernel) (pa_cons (pv 1) pa_nil)) (nomark _)))) (fun _ _ _ _ _ => (pv 4))) pa_nil)))
    (pss_cons (ps_set (i := 3) S.nd rfl (by first | exact .inl rfl | exact .inr rfl) (pe_lst pa_nil))
    (pss_cons (ps_for PassesOwn.never rfl (pi_range1 (by rfl) T.f_range (pa_cons (pe_callB call_len_seq (by rfl) T.f_len (by first | rfl | decide +kernel) (pa_cons (pv 0) pa_nil)) pa_nil)) (pg_name (i := 4) S.nd rfl (by first | exact .inl rfl | exact .inr rfl))
    (pss_one (ps_if (pt_val (pe_c c_law_alike hr (by decide) (by rfl) (pa_cons (pe_ix ix_list (pv 0) (pv 4) (fun _ _ => rfl)) (pa_cons (pe_ix ix_list (pv 0) (pv 2) (fun _ _ => rfl)) pa_nil))))
      (pss_one (ps_expr (pe_bm PySem.F.plainAttrs_list PySem.F.slot_list_append PySem.F.type_list_append mt_append (pv 3) (pa_cons (pe_tup (pa_cons pe_str pa_nil)) pa_nil))))
      (pss_cons (ps_set (i := 5) S.nd rfl (by first | exact .inl rfl | exact .inr rfl) (pe_callB (cr_min rfl) (by rfl) T.f_min (by first | rfl | decide +kernel) (pa_cons (pe_op op_cat (pe_lc (own := [("at", 7)]) (g := gName 7) rfl S.nd (pi_range1 (by rfl) T.f_range (pa_cons pe_int pa_nil)) (blkOk_by (N := N_law_due) (sc := defScope s_law_due) (by decide +kernel)) (fun _ _ _ _ _ => (pg_name (i := 7) S.nd rfl (by first | exact .inl rfl | exact .inr rfl))) (fun _ _ _ _ _ => (pts_one (pt_cmpR (nPK K hr.units) (pe_ix (ixT K) (pe_ix (ixL K) (pv 1) (pv 4) (fun _ _ => rfl)) (pv 7) (fun _ _ => rfl)) (pe_ix (ixT K) (pe_ix (ixL K) (pv 1) (pv 2) (fun _ _ => rfl)) (pv 7) (fun _ _ => rfl)) (nomark _)))) (fun _ _ _ _ _ => (pv 7))) (pe_lst (pa_cons pe_int pa_nil))) pa_nil)))
        (pss_cons (ps_if (pt_cmpR op_eq (pv 5) pe_int (nomark _))
        (pss_one (ps_ret pe_non))
        pss_nil)
        (pss_one (ps_expr (pe_bm PySem.F.plainAttrs_list PySem.F.slot_list_append PySem.F.type_list_append mt_append (pv 3) (pa_cons (pe_tup (pa_cons pe_str (pa_cons (pv 5) (pa_cons (pe_ix ix_tup (pe_ix ix_list (pv 1) (pv 4) (fun _ _ => rfl)) (pv 5) (fun _ _ => rfl)) (pa_cons (pe_ix ix_tup (pe_ix ix_list (pv 1) (pv 2) (fun _ _ => rfl)) (pv 5) (fun _ _ => rfl)) pa_nil))))) pa_nil)))))))))
    (pss_one (ps_ret (pe_tup (pa_cons (pv 2) (pa_cons (pe_callTy call_tupleF (by rfl) T.f_tuple (by first | rfl | decide +kernel) (pa_cons (pv 3) pa_nil)) pa_nil))))))))), ?_⟩
    try dsimp only [cxOf, Cx.nox]
    have t : ET K := ⟨T.cl_Entry, T.no_Entry_name, T.no_Entry_vector, T.no_Entry_height, T.no_Entry_maker, T.no_Entry_deleted, T.no_Entry_time, T.no_Entry_blocks⟩
    obtain ⟨_, rfl, a, ps, es, rfl, hL, kn, k⟩ := h
    have hS := hL.l
    have hpl := paired_len hL.p
    walk_at "go"
    intro D hD
    refine lc_rel (walk_list (K := K) (xs := ps.map V.ref)) hD (by have := hL.n; rw [List.length_map]; omega) (fun H1 s => s.seq hL.l) (fun i v H1 => ∃ q, v = .ref q ∧ KeyT K H1 q (es.getD i dE)) (fun i v _ _ ⟨q, e, z⟩ s => ⟨q, e, z.same s⟩) (fun i x H1 H1' C E acc hi s1 ea hy hC => ?_) (fun H1 us s1 e1 l1 h1 => ?_)
    · obtain ⟨rfl, hx⟩ := hy
      rw [List.getElem?_map] at hx
      obtain ⟨q, hq, rfl⟩ := Option.map_eq_some_iff.mp hx
      obtain ⟨e, he, hE⟩ := paired_get hL.p i q hq
      have ee : es.getD i dE = e := getD_of he
      have hE1 := hE.same s1
      walk_at "go"
      refine ⟨_, rfl, q, e, rfl, hE1, hL.f e (List.mem_of_getElem? he), fun r H3 s3 hk => ?_⟩
      rw [← ee] at hk
      exact hC _ H3 s3 ⟨r, rfl, key_hid (fun d hd => by rw [List.mem_singleton.mp hd]; exact nt_lst (s3 _ _ ea)) hk⟩
    obtain ⟨qs, rfl, hq⟩ := refs_of h1
    have hK : Kys K H1 D qs es := ⟨SqL.of e1, by rw [List.length_map, List.length_map] at l1; rw [l1, hpl], fun i q z => (hq i q z).same hid_sub⟩
    have hL1 := hL.same s1
    have hS1 := hL1.l
    have hKl := hK.l
    clear hS hq h1
    have hn9 : ((qs.map V.ref).length : Int) ≤ 60 := by
      have := hL.n
      have := hK.n
      simp
      omega
    walk_at "go"
    intro D2 hD2
    refine lc_filt (K := K) hD2 (by have := hL.n; have := hK.n; simp; omega) (fun i => PyData.eqv (kdL es i) (kdL es (mxI (kdL es) es.length))) (fun i => .int (0 + (i : Nat))) (fun i H2 C E hi s2 hC hE => ?_) (fun H2 s2 e2 => ?_)
    · have hi2 : i < es.length := by
        have := hK.n
        simp at hi
        omega
      obtain ⟨q, hq, hat, hkq⟩ := hK.at hi2
      have hK2 := hK.same s2
      have hKl2 := hK2.l
      walk_at "go"
      refine e_ixL hKl2 (by rw [show (0 : Int) + (i : Nat) = (i : Nat) from by omega]; exact hat) ?_
      walk_at "go"
      refine ⟨D, qs, kdL es, rfl, by rw [hK.n]; exact hL.n0, hK2.md, fun p hp => ?_⟩
      rw [hK.n] at hp
      walk_at "go"
      refine e_eqPV (d := kdL es i) (e := kdL es (mxI (kdL es) es.length)) (key_dp (hkq.same s2)) (key_dp (hK2.k _ _ hp)) (kdE_plain _) (kdE_plain _) (kdE_depth _) rfl ?_
      generalize hb : PyData.eqv (kdL es i) (kdL es (mxI (kdL es) es.length)) = bq at hC hE ⊢
      cases bq
      · walk_at "go"
        exact hE rfl H2 (Same.refl H2)
      · walk_at "go"
        exact hC rfl H2 (Same.refl H2)
    obtain ⟨b, hB⟩ := bst_ex es hL.n0
    have hb9 := hB.1
    refine ⟨D2, ((List.range ((((qs.map V.ref).length : Nat) : Int)).toNat).filter fun i => PyData.eqv (kdL es i) (kdL es (mxI (kdL es) es.length))).map (fun i => (0 : Int) + (i : Nat)), rfl, SqL.of (by rw [List.map_map]; exact e2), List.length_pos_of_mem (a := (0 : Int) + (b : Nat)) (List.mem_map.mpr ⟨b, List.mem_filter.mpr ⟨List.mem_range.mpr (by have := hK.n; simp; omega), hB.2.1⟩, rfl⟩), fun m hm hmin => ?_⟩
    have em : m = (b : Int) := by
      have h2 := hmin ((0 : Int) + (b : Nat)) (List.mem_map.mpr ⟨b, List.mem_filter.mpr ⟨List.mem_range.mpr (by have := hK.n; simp; omega), hB.2.1⟩, rfl⟩)
      obtain ⟨i, hi, rfl⟩ := List.mem_map.mp hm
      have h3 := (List.mem_filter.mp hi).2
      by_cases z : i < b
      · rw [hB.2.2 i z] at h3
        cases h3
      · omega
    subst em
    have hL2 := hL1.same s2
    have hK2 := hK.same s2
    have hpl9 : ((ps.map V.ref).length : Int) ≤ 60 := by
      have := hL.n
      simp
      omega
    have hS2 := hL2.l
    clear hmin hm e2
    walk_at "go"
    rename_i D3 hD3
    have s3 := same_new (o := .lst []) hD3
    have e3 : upd H2 D3 (.lst []) D3 = some (.lst []) := upd_same
    have hS3 := s3.seq hS2
    generalize upd H2 D3 (.lst []) = H3 at *
    obtain ⟨pb, hatb, _, hEb, hfb, _⟩ := hL2.at hB.1
    obtain ⟨qb, hqb, hatqb, hkb⟩ := hK2.at hB.1
    obtain ⟨ys, hys, lys, dys⟩ := key_parts hkb
    refine ⟨a, ps.map V.ref, rfl, .inl hS3, ?_⟩
    walk_at "go"
    refine for_rng (fun i σ H4 => (∃ v4 v5 v6 v7, σ = [some (.ref a), some (.ref D), some (.int (b : Nat)), some (.ref D3), v4, v5, v6, v7]) ∧ Same H2 H4 ∧ (∃ us : List V, H4 D3 = some (.lst us) ∧ us.length = i ∧ ∀ j v, us[j]? = some v → ∃ d, Rsn (es.getD j dE) (es.getD b dE) d ∧ Dp K (hid [D3] H4) v d) ∧ ∀ j, j < i → alk (es.getD j dE) (es.getD b dE) = true ∨ PyData.eqv (kdL es j) (kdL es b) = false) ⟨⟨_, _, _, _, rfl⟩, s3, ⟨[], e3, rfl, fun j v z => by simp at z⟩, fun j z => by omega⟩ (fun i σ H4 hi q => ?_) (fun σ H4 q => ?_)
    · obtain ⟨⟨v4, v5, v6, v7, rfl⟩, s4, ⟨us, e4, l4, r4⟩, al4⟩ := q
      have hi2 : i < es.length := by
        simp at hi
        omega
      have lu : us.length < sizeLine := Nat.lt_of_le_of_lt (by have := hL.n; omega : _ ≤ 60) (by decide)
      obtain ⟨pi, hati, _, hEi, hfi, hei⟩ := hL2.at hi2
      obtain ⟨qi, hqi, hatqi, hki⟩ := hK2.at hi2
      obtain ⟨xs, hxs, lxs, dxs⟩ := key_parts hki
      have hS4 := s4.seq hS2
      have hK4 := s4.seq hK2.l
      have z0 : (0 : Int) + (i : Nat) = (i : Nat) := by omega
      rw [z0]
      walk_at "go"
      refine e_ixL hS4 hati ?_
      walk_at "go"
      refine e_ixL hS4 hatb ?_
      walk_at "go"
      refine ⟨_, _, rfl, pi, pb, true, true, es.getD i dE, es.getD b dE, rfl, rfl, hEi.same s4, hEb.same s4, ?_⟩
      walk_at "go"
      refine i_b (fun h1 => ?_) (fun h1 => ?_)
      · walk_at "go"
        rename_i r hr
        have s5 := same_new (o := .tup [.str "alike"]) hr
        have hd : Dp K (upd H4 r (.tup [.str "alike"])) (.ref r) kA := .tup (SqT.of upd_same) (.cons (.str _) .nil)
        have e5 := s5 _ _ e4
        refine e_app e5 lu ?_
        refine ⟨⟨_, _, _, _, rfl⟩, Same.mut (s4.trans s5) hD3, ⟨us ++ [.ref r], upd_same, by simp [l4], ?_⟩, fun j hj => ?_⟩
        · rw [hid_upd_in (List.mem_singleton.mpr rfl)]
          refine at_snoc (fun j v hj => ?_) ?_
          · obtain ⟨d, y1, y2⟩ := r4 j v hj
            exact ⟨d, y1, dp_same (hid_same s5) y2⟩
          · rw [l4]
            exact ⟨kA, .al h1, dp_hid (fun d hd => by rw [List.mem_singleton.mp hd]; exact nt_lst e5) hd (by simp [kA, nl, nlA])⟩
        · by_cases z : j = i
          · rw [z]; exact .inl h1
          · exact al4 j (by omega)
      · walk_at "go"
        intro D4 hD4
        refine lc_filt (K := K) hD4 (by decide) (fun j => !qE (es.getD i dE) (es.getD b dE) j) (fun j => .int (0 + (j : Nat))) (fun j H5 C E hj s5 hC hE => ?_) (fun H5 s5 e5 => ?_)
        · have hj6 : j < 6 := hj
          have z1 : (0 : Int) + (j : Nat) = (j : Nat) := by omega
          obtain ⟨x, hx⟩ : ∃ x, xs[j]? = some x := ⟨_, List.getElem?_eq_getElem (by omega)⟩
          obtain ⟨y, hy⟩ : ∃ y, ys[j]? = some y := ⟨_, List.getElem?_eq_getElem (by omega)⟩
          have hK5 := s5.seq hK4
          have s25 := s4.trans s5
          walk_at "go"
          refine e_ixL hK5 hatqi ?_
          walk_at "go"
          refine e_ixT (same_tup s25 hxs) (v := x) (at_of (j := j) z1 hx) ?_
          walk_at "go"
          refine e_ixL hK5 hatqb ?_
          walk_at "go"
          refine e_ixT (same_tup s25 hys) (v := y) (at_of (j := j) z1 hy) ?_
          walk_at "go"
          refine e_nePV (dp_same s25 (dxs j x hx)) (dp_same s25 (dys j y hy)) (rE_plain _ hj6) (rE_plain _ hj6) (Nat.le_trans (rE_depth _ hj6) (by decide)) (b := qE (es.getD i dE) (es.getD b dE) j) rfl ?_
          generalize qE (es.getD i dE) (es.getD b dE) j = bq at hC hE ⊢
          cases bq
          · walk_at "go"
            exact hC rfl H5 (Same.refl H5)
          · walk_at "go"
            exact hE rfl H5 (Same.refl H5)
        generalize hNs : (List.range (Int.toNat 6)).filter (fun j => !qE (es.getD i dE) (es.getD b dE) j) = Ns at e5
        have hNl : Ns.length ≤ 6 := by
          rw [← hNs]
          exact List.length_filter_le ..
        walk_at "go"
        rename_i p6 hp6
        have s6 := same_new (o := .lst [V.int 6]) hp6
        have e6 := s6 _ _ e5
        have e6' : upd H5 p6 (.lst [V.int 6]) p6 = some (.lst [V.int 6]) := upd_same
        generalize upd H5 p6 (.lst [V.int 6]) = H6 at *
        refine e_cat e6 e6' (Nat.le_trans (by rw [List.length_map]; show _ + 1 ≤ 7; omega) (by decide)) fun p7 hp7 => ?_
        have s7 := same_new (o := .lst (Ns.map (fun j => V.int (0 + (j : Nat))) ++ [V.int 6])) hp7
        have e7 : upd H6 p7 (.lst (Ns.map (fun j => V.int (0 + (j : Nat))) ++ [V.int 6])) p7 = some (.lst (Ns.map (fun j => V.int (0 + (j : Nat))) ++ [V.int 6])) := upd_same
        generalize upd H6 p7 (.lst (Ns.map (fun j => V.int (0 + (j : Nat))) ++ [V.int 6])) = H7 at *
        have s27 := s4.trans ((s5.trans s6).trans s7)
        refine ⟨p7, Ns.map (fun j => (0 : Int) + (j : Nat)) ++ [6], rfl, SqL.of (by rw [List.map_append, List.map_map]; exact e7), by simp, fun m hm hmin => ?_⟩
        have hK7 := s27.seq hK2.l
        walk_at "go"
        refine i_d (fun hm6 => ?_) (fun hm6 => ?_)
        · walk_at "go"
          exact kn _ (s1.trans (s2.trans s27))
        have hm2 : ∃ j ∈ Ns, (0 : Int) + (j : Nat) = m := by
          rcases List.mem_append.mp hm with z | z
          · exact List.mem_map.mp z
          · exact absurd (List.mem_singleton.mp z) hm6
        obtain ⟨c, hc, hcm⟩ := hm2
        have hcm2 : m = (c : Nat) := by omega
        subst hcm2
        have hc2 := hc
        rw [← hNs] at hc2
        have hc6 : c < 6 := List.mem_range.mp (List.mem_filter.mp hc2).1
        have hcq : qE (es.getD i dE) (es.getD b dE) c = false := by
          have := (List.mem_filter.mp hc2).2
          simpa using this
        have hcb : ∀ j, j < c → qE (es.getD i dE) (es.getD b dE) j = true := fun j hj => by
          cases z : qE (es.getD i dE) (es.getD b dE) j with
          | true => rfl
          | false =>
            have h9 : j ∈ Ns := by
              rw [← hNs]
              exact List.mem_filter.mpr ⟨List.mem_range.mpr (by show j < 6; omega), by rw [z]; rfl⟩
            have := hmin ((0 : Int) + (j : Nat)) (List.mem_append_left _ (List.mem_map.mpr ⟨j, h9, rfl⟩))
            omega
        obtain ⟨x, hx⟩ : ∃ x, xs[c]? = some x := ⟨_, List.getElem?_eq_getElem (by omega)⟩
        obtain ⟨y, hy⟩ : ∃ y, ys[c]? = some y := ⟨_, List.getElem?_eq_getElem (by omega)⟩
        have e47 := ((s5.trans s6).trans s7) _ _ e4
        walk_at "go"
        refine e_ixL hK7 hatqi ?_
        walk_at "go"
        refine e_ixT (same_tup s27 hxs) (v := x) (at_of (j := c) rfl hx) ?_
        walk_at "go"
        refine e_ixL hK7 hatqb ?_
        walk_at "go"
        refine e_ixT (same_tup s27 hys) (v := y) (at_of (j := c) rfl hy) ?_
        walk_at "go"
        rename_i r hr
        have s8 := same_new (o := .tup [.str "less", .int (c : Nat), x, y]) hr
        have hd : Dp K (upd H7 r (.tup [.str "less", .int (c : Nat), x, y])) (.ref r) (kL (es.getD i dE) (es.getD b dE) c) := .tup (SqT.of upd_same) (.cons (.str _) (.cons (.int _) (.cons (dp_same (s27.trans s8) (dxs c x hx)) (.cons (dp_same (s27.trans s8) (dys c y hy)) .nil))))
        have s58 := ((s5.trans s6).trans s7).trans s8
        have e8 := s58 _ _ e4
        refine e_app e8 lu ?_
        refine ⟨⟨_, _, _, _, rfl⟩, Same.mut (s4.trans s58) hD3, ⟨us ++ [.ref r], upd_same, by simp [l4], ?_⟩, fun j hj => ?_⟩
        · rw [hid_upd_in (List.mem_singleton.mpr rfl)]
          refine at_snoc (fun j v hj => ?_) ?_
          · obtain ⟨d, y1, y2⟩ := r4 j v hj
            exact ⟨d, y1, dp_same (hid_same s58) y2⟩
          · rw [l4]
            have hrs : Rsn (es.getD i dE) (es.getD b dE) (kL (es.getD i dE) (es.getD b dE) c) := .le c h1 hc6 hcb hcq
            exact ⟨_, hrs, dp_hid (fun d hd => by rw [List.mem_singleton.mp hd]; exact nt_lst e8) hd hrs.nl⟩
        · by_cases z : j = i
          · rw [z]
            refine .inr ?_
            cases zz : PyData.eqv (kdL es i) (kdL es b) with
            | false => rfl
            | true =>
              have := (kq_iff _ _).mp zz c hc6
              rw [hcq] at this
              cases this
          · exact al4 j (by omega)
    obtain ⟨⟨v4, v5, v6, v7, rfl⟩, s4, ⟨us, e4, l4, r4⟩, al4⟩ := q
    have hU : SqL K H4 D3 us := SqL.of e4
    walk_at "go"
    intro w H5 hw s5 hp5 _
    walk_at "go"
    rename_i r hr
    have s6 := same_new (o := .tup [.int (b : Nat), .ref w]) hr
    have lus : us.length = es.length := by rw [l4]; simp; omega
    refine k r w b us _ (s1.trans (s2.trans (s4.trans (s5.trans s6)))) ⟨SqT.of upd_same, (hp5.same s6).seq, hB, prd_mk lus fun j v e hv he => ?_⟩ fun e he => ?_
    · obtain ⟨d, q1, q2⟩ := r4 j v hv
      rw [getD_of he] at q1
      exact ⟨d, q1, dp_same (s5.trans s6) (dp_same hid_sub q2)⟩
    · obtain ⟨j, hj⟩ := List.getElem?_of_mem he
      have := al4 j (by rw [← l4, lus]; exact (List.getElem?_eq_some_iff.mp hj).1)
      unfold kdL at this
      rw [getD_of hj] at this
      exact this
theorem ok_law_spoilt (T : Txt K mg)  (c_law_draw : Cal P w K mg base 1 "_law_draw" (sp_law_draw K)) {f : Addr} {fd : FuncData} (F : FnP K "_law_spoilt" s_law_spoilt f fd) : FnOk P w K mg base CX0 2 f fd ["draws", "paper"] (sp_law_spoilt K) := by
  refine F.ok sc_law_spoilt (fun vs H Q E h => ?_) (fun cdv A outer s H vs Q E hr h => ?_)
  · obtain ⟨_, _, rfl, _⟩ := h
    rfl
  · have S := sc_law_spoilt
    refine ⟨_, PSs.nox (pss_cons (ps_asg (pv 1) (pg_tup rfl (pgs_cons (pg_name (i := 2) S.nd rfl (by first | exact .inl rfl | exact .inr rfl)) (pgs_cons (pg_name (i := 3) S.nd rfl (by first | exact .inl rfl | exact .inr rfl)) pgs_nil))))
    (pss_cons (ps_set (i := 4) S.nd rfl (by first | exact .inl rfl | exact .inr rfl) (pe_c c_law_draw hr (by decide) (by rfl) (pa_cons (pv 0) (pa_cons (pe_callB call_len_seq (by rfl) T.f_len (by first | rfl | decide +kernel) (pa_cons (pv 3) pa_nil)) pa_nil))))
    (pss_cons (ps_set (i := 5) S.nd rfl (by first | exact .inl rfl | exact .inr rfl) (pe_ix ix_tup (pv 3) (pv 4) (fun _ _ => rfl)))
    (pss_cons (ps_set (i := 6) S.nd rfl (by first | exact .inl rfl | exact .inr rfl) (pe_lst (pa_cons (pe_tup (pa_cons pe_str pa_nil)) (pa_cons (pe_tup (pa_cons pe_str (pa_cons pe_int (pa_cons pe_int (pa_cons pe_int pa_nil))))) (pa_cons (pe_tup (pa_cons pe_str (pa_cons pe_int (pa_cons pe_int (pa_cons pe_int pa_nil))))) (pa_cons (pe_op op_catA (pv 5) (pe_tup (pa_cons pe_int pa_nil))) (pa_cons (pe_slice sl_tupA (pv 5) po_none (po_some (pe_un un_neg pe_int))) (pa_cons (pe_callTy call_list_of (by rfl) T.f_list (by first | rfl | decide +kernel) (pa_cons (pv 5) pa_nil)) (pa_cons pe_non (pa_cons (pe_tup (pa_cons pe_str (pa_cons pe_int (pa_cons (pe_tup (pa_cons pe_int pa_nil)) (pa_cons (pe_tup (pa_cons pe_int pa_nil)) pa_nil))))) (pa_cons (pe_tup (pa_cons pe_str (pa_cons pe_int (pa_cons pe_int (pa_cons pe_int pa_nil))))) pa_nil)))))))))))
    (pss_cons (ps_set (i := 7) S.nd rfl (by first | exact .inl rfl | exact .inr rfl) (pe_ix ix_list (pv 6) (pe_c c_law_draw hr (by decide) (by rfl) (pa_cons (pv 0) (pa_cons pe_int pa_nil))) (fun _ _ => rfl)))
    (C8.pss_cut (ps_if (pt_cmpR (op_eqP hr.units) (pv 7) (pv 5) (nomark _))
    (pss_one (ps_set (i := 7) S.nd rfl (by first | exact .inl rfl | exact .inr rfl) (pe_tup (pa_cons pe_str pa_nil))))
    pss_nil)
    (pss_one (ps_ret (pe_tup (pa_cons (pv 2) (pa_cons (pe_op op_catA (pe_op op_catA (pe_slice sl_tupA (pv 3) po_none (po_some (pv 4))) (pe_tup (pa_cons (pv 7) pa_nil))) (pe_slice sl_tupA (pv 3) (po_some (pe_op op_add (pv 4) pe_int)) po_none)) pa_nil))))))))))), ?_⟩
    try dsimp only [cxOf, Cx.nox]
    obtain ⟨_, _, rfl, st, sc, r, w, ns, i, vs, es, rfl, rfl, d0, hP, hn, k⟩ := h
    have hr9 := same_tup hid_sub hP.r
    have hw9 := same_tup hid_sub hP.w
    have hvl : vs.length = es.length := paired_len hP.v
    have hi := hP.b.1
    walk_at "go"
    refine ⟨_, _, rfl, st, sc, ns, (vs.length : Int), rfl, rfl, d0, by omega, by omega, fun jj H1 hj0 hj1 k1 d1 => ?_⟩
    obtain ⟨j, rfl⟩ : ∃ j : Nat, jj = (j : Int) := ⟨jj.toNat, by omega⟩
    have hjl : j < vs.length := by omega
    have hvj : vs[j]? = some vs[j] := List.getElem?_eq_getElem hjl
    generalize vs[j] = v0 at hvj
    obtain ⟨e9, he9, d9, hd9, hD9⟩ := paired_get hP.v j v0 hvj
    obtain ⟨pl9, dp9, ev9⟩ := hd9.plain
    have sk : Same (hid [st] H) H1 := (kp_same k1).trans hid_sub
    obtain ⟨p9, xs9, ds9, rfl, rfl, hR9⟩ := hd9.rw2 hD9
    have hw1 := same_tup sk hP.w
    have hR1 := hR9.same (kp_same k1)
    have hr1 := same_tup sk hP.r
    walk_at "go"
    refine e_ixT hw1 (at_of (j := j) rfl hvj) ?_
    walk_at "go"
    rename_i a1 h1 a2 h2 a3 h3 a4 h4
    have z1 := same_new (o := .tup [V.str "alike"]) h1
    have o1 : Od K (hid [st] (upd H1 a1 (.tup [V.str "alike"]))) (.ref a1) := od_ints (ns := []) (sqT_hid (SqT.of upd_same) (dw_nt (d1.same z1)))
    generalize upd H1 a1 (.tup [V.str "alike"]) = G1 at *
    have z2 := same_new (o := .tup [V.str "less", V.int 0, V.int 1, V.int 2]) h2
    have g1 := d1.same z1
    have o2 : Od K (hid [st] (upd G1 a2 (.tup [V.str "less", V.int 0, V.int 1, V.int 2]))) (.ref a2) := od_ints (ns := [0, 1, 2]) (sqT_hid (SqT.of upd_same) (dw_nt (g1.same z2)))
    generalize upd G1 a2 (.tup [V.str "less", V.int 0, V.int 1, V.int 2]) = G2 at *
    have z3 := same_new (o := .tup [V.str "less", V.int 1, V.int 0, V.int 1]) h3
    have g2 := g1.same z2
    have o3 : Od K (hid [st] (upd G2 a3 (.tup [V.str "less", V.int 1, V.int 0, V.int 1]))) (.ref a3) := od_ints (ns := [1, 0, 1]) (sqT_hid (SqT.of upd_same) (dw_nt (g2.same z3)))
    generalize upd G2 a3 (.tup [V.str "less", V.int 1, V.int 0, V.int 1]) = G3 at *
    have z4 := same_new (o := .tup [V.int 0]) h4
    have g3 := g2.same z3
    have o4 : SqT K (upd G3 a4 (.tup [V.int 0])) a4 [V.int 0] := SqT.of upd_same
    generalize upd G3 a4 (.tup [V.int 0]) = G4 at *
    have g4 := g3.same z4
    have s14 := ((z1.trans z2).trans z3).trans z4
    have o1 := ((o1.same (hid_same z2)).same (hid_same z3)).same (hid_same z4)
    have o2 := (o2.same (hid_same z3)).same (hid_same z4)
    have o3 := o3.same (hid_same z4)
    have hR4 := hR1.same (hid_same s14)
    have lx9 : xs9.length ≤ 4 := by
      rw [dpa_len hR9.d]
      have := hR9.n
      omega
    refine e_catA (same_tup hid_sub hR4.q) o4 (by show _ + 1 ≤ 1000; omega) fun a5 G5 z5 t5 => ?_
    have g5 := g4.same z5
    have hR5 := hR4.same (hid_same z5)
    have o5 := hR5.app (sqT_hid t5 (dw_nt g5))
    walk_at "go"
    refine e_slA (same_tup hid_sub hR5.q) fun a6 G6 z6 t6 => ?_
    have g6 := g5.same z6
    have hR6 := hR5.same (hid_same z6)
    have o6 := hR6.cut (sqT_hid t6 (dw_nt g6))
    have hq6 := same_tup hid_sub hR6.q
    walk_at "go"
    intro a7 h7
    have z7 := same_new (o := .lst xs9) h7
    have g7 := g6.same z7
    have n7 : a7 ∉ [st] := fun m => g6.free h7 (List.mem_singleton.mp m)
    have o7 : Od K (hid [st] (upd G6 a7 (.lst xs9))) (.ref a7) := od_lst (SqL.of (by rw [hid_at n7]; exact upd_same)) (dpa_same (hid_same z7) hR6.d) hR6.p
    generalize upd G6 a7 (.lst xs9) = G7 at *
    clear hq6
    walk_at "go"
    rename_i a8 h8 a9 h9 a10 h10 a11 h11 a12 h12
    have z8 := same_new (o := .tup [V.int 0]) h8
    have y8 : upd G7 a8 (.tup [V.int 0]) a8 = some (.tup [V.int 0]) := upd_same
    generalize upd G7 a8 (.tup [V.int 0]) = G8 at *
    have z9 := same_new (o := .tup [V.int 1]) h9
    have y9 : upd G8 a9 (.tup [V.int 1]) a9 = some (.tup [V.int 1]) := upd_same
    generalize upd G8 a9 (.tup [V.int 1]) = G9 at *
    have z10 := same_new (o := .tup [V.str "less", V.int 5, V.ref a8, V.ref a9]) h10
    have y10 : upd G9 a10 (.tup [V.str "less", V.int 5, V.ref a8, V.ref a9]) a10 = some (.tup [V.str "less", V.int 5, V.ref a8, V.ref a9]) := upd_same
    generalize upd G9 a10 (.tup [V.str "less", V.int 5, V.ref a8, V.ref a9]) = G10 at *
    have g10 := ((g7.same z8).same z9).same z10
    have o10 : Od K (hid [st] G10) (.ref a10) := by
      refine od_tup (ds := [.str "less", .int 5, .tuple [.int 0], .tuple [.int 1]]) (sqT_hid (SqT.of y10) (dw_nt g10)) (.cons (.str _) (.cons (.int _) (.cons (.tup (sqT_hid (SqT.of ((z9.trans z10) _ _ y8)) (dw_nt g10)) (.cons (.int _) .nil)) (.cons (.tup (sqT_hid (SqT.of (z10 _ _ y9)) (dw_nt g10)) (.cons (.int _) .nil)) .nil)))) fun x hx => ?_
      simp only [List.mem_cons, List.not_mem_nil, or_false] at hx
      rcases hx with rfl | rfl | rfl | rfl <;> exact ⟨by simp [PyData.plain, PyData.plainAll], by simp [PyData.depth, PyData.depthAll]⟩
    have z11 := same_new (o := .tup [V.str "less", V.int 6, V.int 0, V.int 0]) h11
    have g11 := g10.same z11
    have o11 : Od K (hid [st] (upd G10 a11 (.tup [V.str "less", V.int 6, V.int 0, V.int 0]))) (.ref a11) := od_ints (ns := [6, 0, 0]) (sqT_hid (SqT.of upd_same) (dw_nt g11))
    generalize upd G10 a11 (.tup [V.str "less", V.int 6, V.int 0, V.int 0]) = G11 at *
    have z12 := same_new (o := .lst [V.ref a1, V.ref a2, V.ref a3, V.ref a5, V.ref a6, V.ref a7, V.non, V.ref a10, V.ref a11]) h12
    have g12 := g11.same z12
    have y12 : upd G11 a12 (.lst [V.ref a1, V.ref a2, V.ref a3, V.ref a5, V.ref a6, V.ref a7, V.non, V.ref a10, V.ref a11]) a12 = some (.lst [V.ref a1, V.ref a2, V.ref a3, V.ref a5, V.ref a6, V.ref a7, V.non, V.ref a10, V.ref a11]) := upd_same
    have n12 : a12 ≠ st := g11.free h12
    generalize upd G11 a12 (.lst [V.ref a1, V.ref a2, V.ref a3, V.ref a5, V.ref a6, V.ref a7, V.non, V.ref a10, V.ref a11]) = G12 at *
    have u11 := z11.trans z12
    have u7 := ((z8.trans z9).trans z10).trans u11
    have u6 := z7.trans u7
    have u4 := z5.trans (z6.trans u6)
    refine ⟨_, _, rfl, st, sc, ns, 9, rfl, rfl, g12, by decide, by decide, fun c G13 q13 r13 k13 g13 => ?_⟩
    obtain ⟨nv, hnv, nd, n1, n2, n3⟩ : ∃ nv, atI [V.ref a1, V.ref a2, V.ref a3, V.ref a5, V.ref a6, V.ref a7, V.non, V.ref a10, V.ref a11] c = some nv ∧ Od K (hid [st] G12) nv := by
      have h9 : c = 0 ∨ c = 1 ∨ c = 2 ∨ c = 3 ∨ c = 4 ∨ c = 5 ∨ c = 6 ∨ c = 7 ∨ c = 8 := by omega
      rcases h9 with h9 | h9 | h9 | h9 | h9 | h9 | h9 | h9 | h9 <;> rw [h9]
      · exact ⟨_, rfl, o1.same (hid_same u4)⟩
      · exact ⟨_, rfl, o2.same (hid_same u4)⟩
      · exact ⟨_, rfl, o3.same (hid_same u4)⟩
      · exact ⟨_, rfl, o5.same (hid_same (z6.trans u6))⟩
      · exact ⟨_, rfl, o6.same (hid_same u6)⟩
      · exact ⟨_, rfl, o7.same (hid_same u7)⟩
      · exact ⟨_, rfl, .none, .non, by simp [PyData.plain], by simp [PyData.depth]⟩
      · exact ⟨_, rfl, o10.same (hid_same u11)⟩
      · exact ⟨_, rfl, o11.same (hid_same z12)⟩
    have y13 := k13 _ _ n12 y12
    have kk : Kp st H G13 := (k1.trans (Kp.of (s14.trans u4))).trans k13
    have sH : Same (hid [st] H) G13 := (kp_same kk).trans hid_sub
    have hnd : Dp K G13 nv nd := dp_same ((kp_same k13).trans hid_sub) n1
    have hrd : Dp K G13 (.ref p9) (.tuple ds9) := dp_same sH hD9
    have hW := same_tup sH hP.w
    clear o1 o2 o3 o5 o6 o7 o10 o11
    walk_at "go"
    refine e_ixL (SqL.of y13) hnv ?_
    walk_at "go"
    refine e_cut (Mid := fun σ' H' => ∃ (v : V) (d : PyData), σ' = [some (.ref st), some (.ref r), some (.int (i : Nat)), some (.ref w), some (.int (j : Nat)), some (.ref p9), some (.ref a12), some v] ∧ Same G13 H' ∧ Dp K H' v d ∧ d.plain = true ∧ d.depth ≤ 60 ∧ PyData.eqv d (.tuple ds9) = false) ?_ ?_
    · walk_at "go"
      refine e_eqPV hnd hrd n2 pl9 (by omega) rfl ?_
      generalize hbq : PyData.eqv nd (.tuple ds9) = bq
      cases bq
      · walk_at "go"
        exact ⟨nv, nd, rfl, Same.refl G13, hnd, n2, by omega, hbq⟩
      · walk_at "go"
        rename_i q hq
        exact ⟨.ref q, .tuple [.str "more"], rfl, same_new hq, .tup (SqT.of upd_same) (.cons (.str _) .nil), by simp [PyData.plain, PyData.plainAll], by simp [PyData.depth, PyData.depthAll], more_ne hd9⟩
    rintro σ' G14 ⟨v, d, rfl, z14, hv, p1, p2, p3⟩
    have hW14 := same_tup z14 hW
    walk_at "go"
    refine e_slA hW14 fun c1 G15 z15 t15 => ?_
    rw [cut_toV] at t15
    walk_at "go"
    rename_i c2 hc2
    have z16 := same_new (o := .tup [v]) hc2
    have t16 : SqT K (upd G15 c2 (.tup [v])) c2 [v] := SqT.of upd_same
    generalize upd G15 c2 (.tup [v]) = G16 at *
    refine e_catA (same_tup z16 t15) t16 (by rw [List.length_take]; show _ + 1 ≤ 1000; omega) fun c3 G17 z17 t17 => ?_
    have s417 := (z15.trans z16).trans z17
    have hW17 := same_tup s417 hW14
    walk_at "go"
    refine e_slA hW17 fun c4 G18 z18 t18 => ?_
    rw [show (j : Int) + 1 = ((j + 1 : Nat) : Int) from by omega, cut_fromV] at t18
    refine e_catA (same_tup z18 t17) t18 (by rw [List.length_append, List.length_take, List.length_drop]; show _ + 1 + _ ≤ 1000; omega) fun c5 G19 z19 t19 => ?_
    walk_at "go"
    rename_i c6 hc6
    have z20 := same_new (o := .tup [.int (i : Nat), .ref c5]) hc6
    have s1420 := (s417.trans z18).trans (z19.trans z20)
    have es9 : vs.take j ++ [v] ++ vs.drop (j + 1) = vs.set j v := by
      rw [List.set_eq_take_append_cons_drop, if_pos hjl, List.append_assoc]
      rfl
    rw [es9] at t19
    refine k c6 c5 j v d _ (kk.trans (Kp.of (z14.trans s1420))) (g13.same (z14.trans s1420)) (by omega) (SqT.of upd_same) (same_tup z20 t19) (dp_same s1420 hv) p1 p2 fun x hx => ?_
    rw [getD_of he9] at hx
    rw [hx.un hd9]
    exact p3
theorem ok_law (T : Txt K mg) (c_Entry : C8.Mak P w K mg base 1 "Entry" (He.ga K "Entry") (sp_Entry___init__ K) [])  (c_law_draws : Cal P w K mg base 1 "_law_draws" (sp_law_draws K)) (c_law_draw : Cal P w K mg base 1 "_law_draw" (sp_law_draw K)) (c_law_entry : Cal P w K mg base 3 "_law_entry" (sp_law_entry K)) (c_law_due : Cal P w K mg base 2 "_law_due" (sp_law_due K)) (c_reasons : Cal P w K mg base 5 "reasons" (sp_reasons K)) (c_winner : Cal P w K mg base 5 "winner" (sp_winner K)) (c_judge_winner : Cal P w K mg base 6 "judge_winner" (sp_judge_winner K)) (c_law_key : Cal P w K mg base 1 "_law_key" (sp_law_key K)) (c_law_alike : Cal P w K mg base 1 "_law_alike" (sp_law_alike K)) (c_law_spoilt : Cal P w K mg base 2 "_law_spoilt" (sp_law_spoilt K)) {f : Addr} {fd : FuncData} (F : FnP K "law" s_law f fd) : FnOk P w K mg base CX0 7 f fd ["script"] (sp_law K) := by
  refine F.ok sc_law (fun vs H Q E h => ?_) (fun cdv A outer s H vs Q E hr h => ?_)
  · obtain ⟨_, rfl, _⟩ := h
    rfl
  · have S := sc_law
    refine ⟨_, PSs.nox (pss_cons (ps_set (i := 1) S.nd rfl (by first | exact .inl rfl | exact .inr rfl) (pe_c c_law_draws hr (by decide) (by rfl) (pa_cons (pv 0) pa_nil)))
    (pss_cons (ps_set (i := 2) S.nd rfl (by first | exact .inl rfl | exact .inr rfl) (pe_lc (own := [("k", 6)]) (g := gName 6) (tt := tYes) rfl S.nd (pi_range1 (by rfl) T.f_range (pa_cons (pe_op op_add pe_int (pe_c c_law_draw hr (by decide) (by rfl) (pa_cons (pv 1) (pa_cons pe_int pa_nil)))) pa_nil)) (blkOk_by (N := N_law) (sc := defScope s_law) (by decide +kernel)) (fun _ _ _ _ _ => (pg_name (i := 6) S.nd rfl (by first | exact .inl rfl | exact .inr rfl))) (fun _ _ _ _ _ => pts_nil) (fun _ _ _ _ _ => (pe_c c_law_entry hr (by decide) (by rfl) (pa_cons (pv 1) pa_nil)))))
    (pss_cons (ps_set (i := 3) S.nd rfl (by first | exact .inl rfl | exact .inr rfl) (pe_c c_law_due hr (by decide) (by rfl) (pa_cons (pv 2) pa_nil)))
    (pss_cons (ps_if (pt_cmpR op_isN (pv 3) pe_non (nomark _))
    (pss_one (ps_ret pe_bl))
    pss_nil)
    (pss_cons (ps_set (i := 4) S.nd rfl (by first | exact .inl rfl | exact .inr rfl) (pe_c c_reasons hr (by decide) (by rfl) (pa_cons (pv 2) pa_nil)))
    (pss_cons (ps_set (i := 5) S.nd rfl (by first | exact .inl rfl | exact .inr rfl) (pe_c c_winner hr (by decide) (by rfl) (pa_cons (pv 2) pa_nil)))
    (pss_cons (ps_if (pw_or (pt_cmpR (op_neP hr.units) (pv 4) (pv 3) (nomark _)) (pw_or1 (pt_cmpR op_isnot_bl (pe_c c_judge_winner hr (by decide) (by rfl) (pa_cons (pv 2) (pa_cons (pv 5) (pa_cons (pv 3) pa_nil)))) pe_bl (nomark _)))).pt
    (pss_one (ps_ret pe_bl))
    pss_nil)
    (pss_cons (ps_for PassesOwn.never rfl (pi_range1 (by rfl) T.f_range (pa_cons (pe_callB call_len_seq (by rfl) T.f_len (by first | rfl | decide +kernel) (pa_cons (pv 2) pa_nil)) pa_nil)) (pg_name (i := 6) S.nd rfl (by first | exact .inl rfl | exact .inr rfl))
    (pss_cons (ps_set (i := 7) S.nd rfl (by first | exact .inl rfl | exact .inr rfl) (pe_c c_judge_winner hr (by decide) (by rfl) (pa_cons (pv 2) (pa_cons (pv 5) (pa_cons (pe_tup (pa_cons (pv 6) (pa_cons (pe_ix ix_tup (pv 3) pe_int (fun _ _ => rfl)) pa_nil))) pa_nil)))))
      (pss_cons (ps_if (pw_and (pt_cmpR (op_eqP hr.units) (pe_c c_law_key hr (by decide) (by rfl) (pa_cons (pe_ix ix_list (pv 2) (pv 6) (fun _ _ => rfl)) pa_nil)) (pe_c c_law_key hr (by decide) (by rfl) (pa_cons (pe_ix ix_list (pv 2) (pe_ix ix_tup (pv 3) pe_int (fun _ _ => rfl)) (fun _ _ => rfl)) pa_nil)) (nomark _)) (pw_and1 (pt_cmpR op_isnot_bl (pv 7) pe_bl (nomark _)))).pt
      (pss_one (ps_ret pe_bl))
      pss_nil)
      (pss_one (ps_if (pw_and (pt_cmpR (op_neP hr.units) (pe_c c_law_key hr (by decide) (by rfl) (pa_cons (pe_ix ix_list (pv 2) (pv 6) (fun _ _ => rfl)) pa_nil)) (pe_c c_law_key hr (by decide) (by rfl) (pa_cons (pe_ix ix_list (pv 2) (pe_ix ix_tup (pv 3) pe_int (fun _ _ => rfl)) (fun _ _ => rfl)) pa_nil)) (nomark _)) (pw_and (pt_not (pt_val (pe_c c_law_alike hr (by decide) (by rfl) (pa_cons (pe_ix ix_list (pv 2) (pv 6) (fun _ _ => rfl)) (pa_cons (pe_ix ix_list (pv 2) (pe_ix ix_tup (pv 3) pe_int (fun _ _ => rfl)) (fun _ _ => rfl)) pa_nil))))) (pw_and1 (pt_cmpR op_isnot_bl (pv 7) pe_bl (nomark _))))).pt
      (pss_one (ps_ret pe_bl))
      pss_nil)))))
    (pss_cons (ps_set (i := 8) S.nd rfl (by first | exact .inl rfl | exact .inr rfl) (C8.pe_mk c_Entry hr (by decide) (by rfl) (pa_cons pe_str (pa_cons (pe_fld (pv 5) rfl) (pa_cons (pe_op op_add (pe_fld (pv 5) rfl) pe_int) (pa_cons (pe_fld (pv 5) rfl) (pa_cons (pe_fld (pv 5) rfl) (pa_cons (pe_fld (pv 5) rfl) (pa_cons (pe_fld (pv 5) rfl) pa_nil)))))))))
    (pss_cons (ps_if (pt_cmpR op_isnot_bl (pe_c c_judge_winner hr (by decide) (by rfl) (pa_cons (pv 2) (pa_cons (pv 8) (pa_cons (pv 3) pa_nil)))) pe_bl (nomark _))
    (pss_one (ps_ret pe_bl))
    pss_nil)
    (pss_cons (ps_set (i := 9) S.nd rfl (by first | exact .inl rfl | exact .inr rfl) (pe_lst (pa_cons pe_non (pa_cons pe_int (pa_cons (pe_tup pa_nil) (pa_cons (pe_callTy call_list_of (by rfl) T.f_list (by first | rfl | decide +kernel) (pa_cons (pv 3) pa_nil)) (pa_cons (pe_slice sl_tupA (pv 3) po_none (po_some pe_int)) (pa_cons (pe_op op_catA (pv 3) (pe_tup (pa_cons pe_int pa_nil))) (pa_cons (pe_tup (pa_cons (pe_callB call_len_seq (by rfl) T.f_len (by first | rfl | decide +kernel) (pa_cons (pv 2) pa_nil)) (pa_cons (pe_ix ix_tup (pv 3) pe_int (fun _ _ => rfl)) pa_nil))) (pa_cons (pe_tup (pa_cons (pe_un un_neg pe_int) (pa_cons (pe_ix ix_tup (pv 3) pe_int (fun _ _ => rfl)) pa_nil))) (pa_cons (pe_tup (pa_cons pe_bl (pa_cons (pe_ix ix_tup (pv 3) pe_int (fun _ _ => rfl)) pa_nil))) (pa_cons (pe_tup (pa_cons (pe_ix ix_tup (pv 3) pe_int (fun _ _ => rfl)) (pa_cons (pe_callTy call_list_of (by rfl) T.f_list (by first | rfl | decide +kernel) (pa_cons (pe_ix ix_tup (pv 3) pe_int (fun _ _ => rfl)) pa_nil)) pa_nil))) (pa_cons (pe_tup (pa_cons (pe_ix ix_tup (pv 3) pe_int (fun _ _ => rfl)) (pa_cons (pe_slice sl_tupA (pe_ix ix_tup (pv 3) pe_int (fun _ _ => rfl)) po_none (po_some (pe_un un_neg pe_int))) pa_nil))) pa_nil)))))))))))))
    (pss_cons (ps_if (pt_cmpR op_gt (pe_callB call_len_seq (by rfl) T.f_len (by first | rfl | decide +kernel) (pa_cons (pe_lc (own := [("value", 10)]) (g := gName 10) rfl S.nd (pi_list (pv 9)) (blkOk_by (N := N_law) (sc := defScope s_law) (by decide +kernel)) (fun _ _ _ _ _ => (pg_name (i := 10) S.nd rfl (by first | exact .inl rfl | exact .inr rfl))) (fun _ _ _ _ _ => (pts_one (pt_cmpR op_isnot_bl (pe_c c_judge_winner hr (by decide) (by rfl) (pa_cons (pv 2) (pa_cons (pv 5) (pa_cons (pv 10) pa_nil)))) pe_bl (nomark _)))) (fun _ _ _ _ _ => (pv 10))) pa_nil)) pe_int (nomark _))
    (pss_one (ps_ret pe_bl))
    pss_nil)
    (pss_one (ps_ret (pe_cmpR op_is_bl (pe_c c_judge_winner hr (by decide) (by rfl) (pa_cons (pv 2) (pa_cons (pv 5) (pa_cons (pe_c c_law_spoilt hr (by decide) (by rfl) (pa_cons (pv 1) (pa_cons (pv 3) pa_nil))) pa_nil)))) pe_bl (nomark _)))))))))))))))), ?_⟩
    try dsimp only [cxOf, Cx.nox]
    have t : ET K := ⟨T.cl_Entry, T.no_Entry_name, T.no_Entry_vector, T.no_Entry_height, T.no_Entry_maker, T.no_Entry_deleted, T.no_Entry_time, T.no_Entry_blocks⟩
    obtain ⟨_, rfl, sa, ns, rfl, hS, hl, k⟩ := h
    walk_at "go"
    refine ⟨_, rfl, sa, ns, rfl, hS, hl, fun st sc H1 hst s1 d1 => ?_⟩
    walk_at "go"
    refine ⟨_, _, rfl, st, sc, ns, 7, rfl, rfl, d1, by decide, by decide, fun n H2 q2 r2 k2 d2 => ?_⟩
    walk_at "go"
    intro D hD
    refine lc_dwE (K := K) (sc := sc) (ns := ns) d2 hD (by omega) (fun i H3 C E hi k3 d3 hC => ?_) (fun H3 ps es k3 d3 eD len hP hf => ?_)
    · walk_at "go"
      exact ⟨_, rfl, st, sc, ns, rfl, d3, fun r e H4 k4 d4 f4 hE => hC r e H4 k4 d4 f4 hE⟩
    have nD : D ∉ [st] := fun m => d2.free hD (List.mem_singleton.mp m)
    have hLs : Lst K (hid [st] H3) D ps es := ⟨SqL.of (by rw [hid_at nD]; exact eD), hP, hf, by rw [len]; omega, by rw [len]; omega⟩
    have hL3 := hLs.same hid_sub
    clear hP eD
    walk_at "go"
    refine ⟨_, rfl, D, ps, es, rfl, hL3, fun H4 s4 => ?_, fun r w b vs H4 s4 hP hal => ?_⟩
    · walk_at "go"
      refine ⟨rfl, ?_⟩
      walk_at "go"
      refine i_self ?_
      walk_at "go"
      exact k _
    have hL4 := hL3.same s4
    have k34 := Kp.of (st := st) s4
    have d4 := d3.same s4
    walk_at "go"
    refine ⟨rfl, ?_⟩
    walk_at "go"
    refine i_d (fun z => nomatch z) (fun _ => ?_)
    walk_at "go"
    refine ⟨_, rfl, D, ps, es, rfl, hL4, fun r2 w2 b2 vs2 H5 s5 hP2 => ?_⟩
    have hL5 := hL4.same s5
    have hP5 := hP.same s5
    have d5 := d4.same s5
    walk_at "go"
    refine ⟨_, rfl, D, ps, es, rfl, hL5.l, hL5.p, hL5.f, hL5.n0, Nat.le_trans hL5.n (by decide), fun ra H6 s6 hW => ?_⟩
    have hL6 := hL5.same s6
    have hP6 := hP5.same s6
    have d6 := d5.same s6
    have kb := bst_kd hP.b
    have hb := hP.b.1
    have hbt : PyData.eqv (kdL es b) (kdL es (mxI (kdL es) es.length)) = true := hP.b.2.1
    have lvs := paired_len hP.v
    walk_at "go"
    refine pap_ne (hP2.same s6) hP6 ?_
    walk_at "go"
    refine ⟨_, _, _, rfl, D, ra, ps, es, true, winE es, true, rfl, rfl, hL6, hW, jdg_ok hP6.w hP6.v hP6.b (alk_self _) hb hbt hP6.r, fun H7 s7 => ?_⟩
    refine ⟨_, _, rfl, rfl, ?_⟩
    have hL7 := hL6.same s7
    have hP7 := hP6.same s7
    have hW7 := hW.same s7
    have d7 := d6.same s7
    have hS7 := hL7.l
    have hpl9 : ((ps.map V.ref).length : Int) ≤ 60 := by
      have := hL7.n
      have := paired_len hL7.p
      rw [List.length_map]
      omega
    have k37 : Kp st H3 H7 := Kp.of (((s4.trans s5).trans s6).trans s7)
    clear hL3 hL4 hL5 hL6 hP2 hP5 hP6 hW d3 d4 d5 d6 s7 s6 s5
    walk_at "go"
    refine i_nd (fun h => absurd rfl h) (fun _ => ?_)
    walk_at "go"
    refine for_rng (fun i σ H8 => (∃ v6 v7 v8 v9 v10, σ = [some (.ref sa), some (.ref st), some (.ref D), some (.ref r), some (.ref r2), some (.ref ra), v6, v7, v8, v9, v10]) ∧ Same H7 H8) ⟨⟨_, _, _, _, _, rfl⟩, Same.refl H7⟩ (fun i σ H8 hi q => ?_) (fun σ H8 q => ?_)
    · obtain ⟨⟨v6, v7, v8, v9, v10, rfl⟩, s8⟩ := q
      have hi2 : i < es.length := by
        have := paired_len hL7.p
        simp at hi
        omega
      rw [show (0 : Int) + (i : Nat) = (i : Nat) from by omega]
      have hL8 := hL7.same s8
      have hP8 := hP7.same s8
      have hW8 := hW7.same s8
      have hr8 := hP8.r
      obtain ⟨pk, hatk, _, hEk, hfk, hek⟩ := hL8.at hi2
      obtain ⟨pb, hatb, _, hEb, hfb, _⟩ := hL8.at hb
      walk_at "go"
      refine e_ixT hr8 (v := .ref w) (at_of (j := 1) rfl rfl) ?_
      walk_at "go"
      rename_i a9 h9
      have s9 := same_new (o := .tup [.int (i : Nat), .ref w]) h9
      have t9 : SqT K (upd H8 a9 (.tup [.int (i : Nat), .ref w])) a9 [.int (i : Nat), .ref w] := SqT.of upd_same
      generalize upd H8 a9 (.tup [.int (i : Nat), .ref w]) = H9 at *
      have hL9 := hL8.same s9
      have hP9 := hP8.same s9
      obtain ⟨tb, htb⟩ : ∃ tb, PyData.eqv (kdL es i) (kdL es (mxI (kdL es) es.length)) = tb := ⟨_, rfl⟩
      have hj : Jdg K H9 es (winE es) (.ref a9) tb := by
        rw [← htb]
        cases ht : PyData.eqv (kdL es i) (kdL es (mxI (kdL es) es.length)) with
        | false => exact .ky t9 hi2 hP9.w lvs ht
        | true =>
          refine jdg_ok hP9.w hP9.v hP9.b ?_ hi2 ht t9
          rcases hal _ (List.mem_of_getElem? hek) with z | z
          · exact z
          · have e1 : kdE (es.getD i dE) = kdL es b := (kq_tr ht).trans kb.symm
            rw [e1] at z
            rw [show PyData.eqv (kdL es b) (kdL es b) = true from kdE_self _] at z
            cases z
      refine ⟨_, _, _, rfl, D, ra, ps, es, true, winE es, _, rfl, rfl, hL9, hW8.same s9, hj, fun H10 s10 => ?_⟩
      have s810 := s9.trans s10
      have hS10 := s810.seq hL8.l
      have hr10 := same_tup s810 hr8
      have hEk10 := hEk.same s810
      have hEb10 := hEb.same s810
      clear hj
      walk_at "go"
      refine e_ixL hS10 hatk ?_
      walk_at "go"
      refine ⟨_, rfl, pk, _, rfl, hEk10, hfk, fun x1 H11 s11 hx1 => ?_⟩
      have hS11 := s11.seq hS10
      have hr11 := same_tup s11 hr10
      walk_at "go"
      refine e_ixT hr11 (v := .int (b : Nat)) (at_of (j := 0) rfl rfl) ?_
      walk_at "go"
      refine e_ixL hS11 hatb ?_
      walk_at "go"
      refine ⟨_, rfl, pb, _, rfl, hEb10.same s11, hfb, fun x2 H12 s12 hx2 => ?_⟩
      walk_at "go"
      have s1012 := s11.trans s12
      have hS12 := s1012.seq hS10
      have hr12 := same_tup s1012 hr10
      have hEk12 := hEk10.same s1012
      have hEb12 := hEb10.same s1012
      refine e_eqPV (d := kdL es i) (e := kdL es b) (key_dp (hx1.same s12)) (key_dp hx2) (kdE_plain _) (kdE_plain _) (kdE_depth _) (b := tb) (by rw [kb]; exact htb) ?_
      clear hS hS11 hr11 hr8
      cases tb
      · walk_at "go"
        walk_at "go"
        refine e_ixL hS12 hatk ?_
        walk_at "go"
        refine ⟨_, rfl, pk, _, rfl, hEk12, hfk, fun x3 H13 s13 hx3 => ?_⟩
        have hS13 := s13.seq hS12
        have hr13 := same_tup s13 hr12
        walk_at "go"
        refine e_ixT hr13 (v := .int (b : Nat)) (at_of (j := 0) rfl rfl) ?_
        walk_at "go"
        refine e_ixL hS13 hatb ?_
        walk_at "go"
        refine ⟨_, rfl, pb, _, rfl, hEb12.same s13, hfb, fun x4 H14 s14 hx4 => ?_⟩
        have s714 := (s8.trans s810).trans ((s11.trans s12).trans (s13.trans s14))
        walk_at "go"
        refine e_nePV (d := kdL es i) (e := kdL es b) (key_dp (hx3.same s14)) (key_dp hx4) (kdE_plain _) (kdE_plain _) (kdE_depth _) (b := false) (by rw [kb]; exact htb) ?_
        walk_at "go"
        have hS14 := s14.seq hS13
        have hr14 := same_tup s14 hr13
        refine e_ixL hS14 hatk ?_
        walk_at "go"
        refine e_ixT hr14 (v := .int (b : Nat)) (at_of (j := 0) rfl rfl) ?_
        walk_at "go"
        refine e_ixL hS14 hatb ?_
        walk_at "go"
        refine ⟨_, _, rfl, pk, pb, true, true, _, _, rfl, rfl, hEk12.same (s13.trans s14), hEb12.same (s13.trans s14), ?_⟩
        generalize alk (es.getD i dE) (es.getD b dE) = al
        cases al
        · walk_at "go"
          refine i_nd (fun h => absurd rfl h) (fun _ => ?_)
          walk_at "go"
          exact ⟨⟨_, _, _, _, _, rfl⟩, s714⟩
        · walk_at "go"
          exact ⟨⟨_, _, _, _, _, rfl⟩, s714⟩
      · walk_at "go"
        refine i_nd (fun h => absurd rfl h) (fun _ => ?_)
        walk_at "go"
        refine e_ixL hS12 hatk ?_
        walk_at "go"
        refine ⟨_, rfl, pk, _, rfl, hEk12, hfk, fun x3 H13 s13 hx3 => ?_⟩
        have hS13 := s13.seq hS12
        have hr13 := same_tup s13 hr12
        walk_at "go"
        refine e_ixT hr13 (v := .int (b : Nat)) (at_of (j := 0) rfl rfl) ?_
        walk_at "go"
        refine e_ixL hS13 hatb ?_
        walk_at "go"
        refine ⟨_, rfl, pb, _, rfl, hEb12.same s13, hfb, fun x4 H14 s14 hx4 => ?_⟩
        have s714 := (s8.trans s810).trans ((s11.trans s12).trans (s13.trans s14))
        walk_at "go"
        refine e_nePV (d := kdL es i) (e := kdL es b) (key_dp (hx3.same s14)) (key_dp hx4) (kdE_plain _) (kdE_plain _) (kdE_depth _) (b := true) (by rw [kb]; exact htb) ?_
        walk_at "go"
        exact ⟨⟨_, _, _, _, _, rfl⟩, s714⟩
    · obtain ⟨⟨v6, v7, v8, v9, v10, rfl⟩, s8⟩ := q
      have hL8 := hL7.same s8
      have hP8 := hP7.same s8
      have hW8 := hW7.same s8
      have d8 := d7.same s8
      have hr8 := hP8.r
      have hS8 := hL8.l
      walk_at "go"
      rename_i vv hvv mm hmm bb hbb
      refine e_mkE fun ro H9 dx hro s9 hi => ?_
      have hL9 := hL8.same s9
      have hP9 := hP8.same s9
      have hW9 := hW8.same s9
      have hO : Ent K H9 true ro { winE es with nm := "a", ht := (winE es).ht + 1 } := ent_made (dx := dx) { winE es with nm := "a", ht := (winE es).ht + 1 } hi (hvv.same s9) (same_tup s9 hmm) (same_tup s9 hbb)
      have hne : enEq { winE es with nm := "a", ht := (winE es).ht + 1 } (winE es) = false := enEq_ne fun z => by
        have := z.2.2.1
        dsimp only at this
        omega
      walk_at "go"
      refine ⟨_, _, _, rfl, D, ro, ps, es, true, _, _, rfl, rfl, hL9, hO, .ot hP9.r hb hP9.w lvs hbt hne, fun H10 s10 => ?_⟩
      refine ⟨_, _, rfl, rfl, ?_⟩
      have s810 := s9.trans s10
      have hr10 := same_tup s810 hP8.r
      have hw10 := same_tup s810 hP8.w
      have hS10 := s810.seq hS8
      walk_at "go"
      refine i_nd (fun h => absurd rfl h) (fun _ => ?_)
      clear hr8
      walk_at "go"
      rename_i a1 h1
      have z1 := same_new (o := .tup []) h1
      have t1 : SqT K (upd H10 a1 (.tup [])) a1 [] := SqT.of upd_same
      generalize upd H10 a1 (.tup []) = G1 at *
      have hr1 := same_tup z1 hr10
      refine ⟨r, _, rfl, .inr hr1, fun a2 h2 => ?_⟩
      have z2 := same_new (o := .lst [.int (b : Nat), .ref w]) h2
      have y2 : upd G1 a2 (.lst [.int (b : Nat), .ref w]) a2 = some (.lst [.int (b : Nat), .ref w]) := upd_same
      generalize upd G1 a2 (.lst [.int (b : Nat), .ref w]) = G2 at *
      have hr2 := same_tup z2 hr1
      walk_at "go"
      refine e_slA hr2 fun a3 G3 z3 t3 => ?_
      rw [show (1 : Int) = ((1 : Nat) : Int) from rfl, cut_toV] at t3
      have hr3 := same_tup z3 hr2
      walk_at "go"
      rename_i a4 h4
      have z4 := same_new (o := .tup [V.int 0]) h4
      have t4 : SqT K (upd G3 a4 (.tup [V.int 0])) a4 [V.int 0] := SqT.of upd_same
      generalize upd G3 a4 (.tup [V.int 0]) = G4 at *
      refine e_catA (same_tup z4 hr3) t4 (by show 3 ≤ 1000; decide) fun a5 G5 z5 t5 => ?_
      have s05 := ((z1.trans z2).trans z3).trans (z4.trans z5)
      have hr5 := same_tup s05 hr10
      have hw5 := same_tup s05 hw10
      have hS5 := s05.seq hS10
      walk_at "go"
      refine e_ixT hr5 (v := .ref w) (at_of (j := 1) rfl rfl) ?_
      walk_at "go"
      rename_i a6 h6
      have lps : (ps.map V.ref).length = es.length := by rw [List.length_map, paired_len hL7.p]
      have z6 := same_new (o := .tup [.int ((ps.map V.ref).length : Nat), .ref w]) h6
      have t6 : SqT K (upd G5 a6 (.tup [.int ((ps.map V.ref).length : Nat), .ref w])) a6 [.int ((ps.map V.ref).length : Nat), .ref w] := SqT.of upd_same
      generalize upd G5 a6 (.tup [.int ((ps.map V.ref).length : Nat), .ref w]) = G6 at *
      have hr6 := same_tup z6 hr5
      refine e_ixT hr6 (v := .ref w) (at_of (j := 1) rfl rfl) ?_
      walk_at "go"
      rename_i a7 h7
      have z7 := same_new (o := .tup [.int (-1), .ref w]) h7
      have t7 : SqT K (upd G6 a7 (.tup [.int (-1), .ref w])) a7 [.int (-1), .ref w] := SqT.of upd_same
      generalize upd G6 a7 (.tup [.int (-1), .ref w]) = G7 at *
      have hr7 := same_tup z7 hr6
      refine e_ixT hr7 (v := .ref w) (at_of (j := 1) rfl rfl) ?_
      walk_at "go"
      rename_i a8 h8
      have z8 := same_new (o := .tup [.bl true, .ref w]) h8
      have t8 : SqT K (upd G7 a8 (.tup [.bl true, .ref w])) a8 [.bl true, .ref w] := SqT.of upd_same
      generalize upd G7 a8 (.tup [.bl true, .ref w]) = G8 at *
      have s58 := (z6.trans z7).trans z8
      have hr8 := same_tup s58 hr5
      have hw8 := same_tup s58 hw5
      refine e_ixT hr8 (v := .int (b : Nat)) (at_of (j := 0) rfl rfl) ?_
      walk_at "go"
      refine e_ixT hr8 (v := .ref w) (at_of (j := 1) rfl rfl) ?_
      walk_at "go"
      intro a9 h9
      have z9 := same_new (o := .lst vs) h9
      have y9 : upd G8 a9 (.lst vs) a9 = some (.lst vs) := upd_same
      generalize upd G8 a9 (.lst vs) = G9 at *
      walk_at "go"
      rename_i a10 h10
      have z10 := same_new (o := .tup [.int (b : Nat), .ref a9]) h10
      have t10 : SqT K (upd G9 a10 (.tup [.int (b : Nat), .ref a9])) a10 [.int (b : Nat), .ref a9] := SqT.of upd_same
      generalize upd G9 a10 (.tup [.int (b : Nat), .ref a9]) = G10 at *
      have hr10' := same_tup (z9.trans z10) hr8
      have hw10' := same_tup (z9.trans z10) hw8
      refine e_ixT hr10' (v := .int (b : Nat)) (at_of (j := 0) rfl rfl) ?_
      walk_at "go"
      refine e_ixT hr10' (v := .ref w) (at_of (j := 1) rfl rfl) ?_
      walk_at "go"
      refine e_slA hw10' fun a11 G11 z11 t11 => ?_
      rw [cut_last] at t11
      walk_at "go"
      rename_i a12 h12 a13 h13
      have z12 := same_new (o := .tup [.int (b : Nat), .ref a11]) h12
      have t12 : SqT K (upd G11 a12 (.tup [.int (b : Nat), .ref a11])) a12 [.int (b : Nat), .ref a11] := SqT.of upd_same
      generalize upd G11 a12 (.tup [.int (b : Nat), .ref a11]) = G12 at *
      have z13 := same_new (o := .lst [V.non, V.int 5, V.ref a1, V.ref a2, V.ref a3, V.ref a5, V.ref a6, V.ref a7, V.ref a8, V.ref a10, V.ref a12]) h13
      have y13 : upd G12 a13 (.lst [V.non, V.int 5, V.ref a1, V.ref a2, V.ref a3, V.ref a5, V.ref a6, V.ref a7, V.ref a8, V.ref a10, V.ref a12]) a13 = some (.lst [V.non, V.int 5, V.ref a1, V.ref a2, V.ref a3, V.ref a5, V.ref a6, V.ref a7, V.ref a8, V.ref a10, V.ref a12]) := upd_same
      generalize upd G12 a13 (.lst [V.non, V.int 5, V.ref a1, V.ref a2, V.ref a3, V.ref a5, V.ref a6, V.ref a7, V.ref a8, V.ref a10, V.ref a12]) = G13 at *
      have u12 := z12.trans z13
      have u10 := z11.trans u12
      have u8 := (z9.trans z10).trans u10
      have u7 := z8.trans u8
      have u6 := z7.trans u7
      have u5 := z6.trans u6
      have u3 := (z4.trans z5).trans u5
      have u2 := z3.trans u3
      have u1 := z2.trans u2
      have hJ : ∀ i v, ([V.non, V.int 5, V.ref a1, V.ref a2, V.ref a3, V.ref a5, V.ref a6, V.ref a7, V.ref a8, V.ref a10, V.ref a12])[i]? = some v → Jdg K G13 es (winE es) v false := fun i v hv => by
        have hi := (List.getElem?_eq_some_iff.mp hv).1
        have h11 : i = 0 ∨ i = 1 ∨ i = 2 ∨ i = 3 ∨ i = 4 ∨ i = 5 ∨ i = 6 ∨ i = 7 ∨ i = 8 ∨ i = 9 ∨ i = 10 := by
          have : i < 11 := hi
          omega
        rcases h11 with h11 | h11 | h11 | h11 | h11 | h11 | h11 | h11 | h11 | h11 | h11 <;> subst h11 <;> cases hv
        · exact .non
        · exact .int 5
        · exact .len (same_tup u1 t1) (by show ¬ 0 = 2; decide)
        · exact .lst (u2 _ _ y2)
        · exact .len (same_tup u3 t3) (by show ¬ 1 = 2; decide)
        · exact .len (same_tup u5 t5) (by show ¬ 3 = 2; decide)
        · exact .ix (same_tup u6 t6) (.inr (by omega))
        · exact .ix (same_tup u7 t7) (.inl (by decide))
        · exact .bl (same_tup u8 t8)
        · exact .rl (same_tup u10 t10) hb ((z10.trans u10) _ _ y9)
        · exact .rn (same_tup z13 t12) hb (same_tup u12 t11) (by rw [List.length_dropLast, lvs]; omega)
      have s7g : Same H7 G13 := s8.trans (s810.trans (z1.trans u1))
      have hL13 := hL7.same s7g
      have hP13 := hP7.same s7g
      have hW13 := hW7.same s7g
      have d13 := d7.same s7g
      clear t1 t3 t4 t5 t6 t7 t8 t10 t11 t12 y2 y9 hr1 hr2 hr3 hr5 hr6 hr7 hr8 hr10' hw8 hw10' hw5 hS5
      have hl13 : SqL K G13 a13 [V.non, V.int 5, V.ref a1, V.ref a2, V.ref a3, V.ref a5, V.ref a6, V.ref a7, V.ref a8, V.ref a10, V.ref a12] := SqL.of y13
      intro DD hDD
      refine lc_it (walk_list (K := K) (xs := [V.non, V.int 5, V.ref a1, V.ref a2, V.ref a3, V.ref a5, V.ref a6, V.ref a7, V.ref a8, V.ref a10, V.ref a12])) (fun i H14 => Same G13 H14 ∧ H14 DD = some (.lst [])) ⟨same_new hDD, upd_same⟩ (fun i H14 _ z => z.1.seq hl13) (fun i x H14 H14' hi z hy => ?_) (fun H14 z => ?_)
      · obtain ⟨rfl, hx⟩ := hy
        obtain ⟨s14, e14⟩ := z
        have hj14 := (hJ i x hx).same s14
        have hL14 := hL13.same s14
        have hW14 := hW13.same s14
        clear hx hJ
        walk_at "go"
        refine ⟨_, _, _, rfl, D, ra, ps, es, true, winE es, false, rfl, rfl, hL14, hW14, hj14, fun H15 s15 => ?_⟩
        refine ⟨_, _, rfl, rfl, ?_⟩
        walk_at "go"
        refine i_nd (fun h => absurd rfl h) (fun _ => ?_)
        exact ⟨s14.trans s15, s15 _ _ e14⟩
      obtain ⟨s14, e14⟩ := z
      have hL14 := hL13.same s14
      have hP14 := hP13.same s14
      have hW14 := hW13.same s14
      have d14 := d13.same s14
      have hl14 : SqL K H14 DD [] := SqL.of e14
      clear hJ
      walk_at "go"
      refine i_d (fun h => absurd h (by show ¬ (0 : Int) < 0; decide)) (fun _ => ?_)
      walk_at "go"
      have hPh := pap_hid (dw_nt d14) hP14
      obtain ⟨l14, el14⟩ := dw_st d14
      have hWh := ent_hid hW14 el14
      refine ⟨_, _, rfl, st, sc, r, w, ns, b, vs, es, rfl, rfl, d14, hPh, hL14.n, fun r' w' j v d' H20 k20 d20 hj tr tw tv p1 p2 p3 => ?_⟩
      have k320 : Kp st H3 H20 := (k37.trans (Kp.of (s7g.trans s14))).trans k20
      have hL20 : Lst K H20 D ps es := hLs.same ((kp_same k320).trans hid_sub)
      have s20 : Same (hid [st] H14) H20 := (kp_same k20).trans hid_sub
      have hJ := Jdg.rw (eg := winE es) tr hb tw (by rw [List.length_set]; exact lvs) hbt (enEq_self _) (fun i => decide (i ≠ j)) fun i v' hv => by
        by_cases hij : i = j
        · subst hij
          rw [List.getElem?_set_self (by rw [lvs]; exact hj)] at hv
          cases hv
          exact ⟨d', tv, .inr ⟨by simp, p1, p2, p3⟩⟩
        · rw [List.getElem?_set_ne (fun z => hij z.symm)] at hv
          obtain ⟨e, he, d, q1, q2⟩ := paired_get hPh.v i v' hv
          rw [getD_of he]
          exact ⟨d, dp_same s20 q2, .inl ⟨decide_eq_true hij, q1⟩⟩
      rw [all_ff hj] at hJ
      walk_at "go"
      refine ⟨_, _, _, rfl, D, ra, ps, es, true, winE es, false, rfl, rfl, hL20, hWh.same s20, hJ, fun H21 s21 => ?_⟩
      refine ⟨_, _, rfl, rfl, ?_⟩
      exact k _
end
set_option maxHeartbeats 0
def d_count_of : He.DefD := ⟨("count_of", none), "count_of", "count_of", defArgs s_count_of, defBody s_count_of, defScope s_count_of, [], []⟩
def d_join : He.DefD := ⟨("join", none), "join", "join", defArgs s_join, defBody s_join, defScope s_join, [], []⟩
def d_vector : He.DefD := ⟨("_vector", none), "_vector", "_vector", defArgs s_vector, defBody s_vector, defScope s_vector, [], []⟩
def d_counts_of : He.DefD := ⟨("counts_of", none), "counts_of", "counts_of", defArgs s_counts_of, defBody s_counts_of, defScope s_counts_of, [], []⟩
def d_Entry___init__ : He.DefD := ⟨("Entry", some "__init__"), "__init__", "Entry.__init__", defArgs s_Entry___init__, defBody s_Entry___init__, defScope s_Entry___init__, [], []⟩
def d_Entry___eq__ : He.DefD := ⟨("Entry", some "__eq__"), "__eq__", "Entry.__eq__", defArgs s_Entry___eq__, defBody s_Entry___eq__, defScope s_Entry___eq__, [], []⟩
def d_alike : He.DefD := ⟨("alike", none), "alike", "alike", defArgs s_alike, defBody s_alike, defScope s_alike, [], []⟩
def d_key_of : He.DefD := ⟨("key_of", none), "key_of", "key_of", defArgs s_key_of, defBody s_key_of, defScope s_key_of, [], []⟩
def d_winner : He.DefD := ⟨("winner", none), "winner", "winner", defArgs s_winner, defBody s_winner, defScope s_winner, [], []⟩
def d_is_integer : He.DefD := ⟨("is_integer", none), "is_integer", "is_integer", defArgs s_is_integer, defBody s_is_integer, defScope s_is_integer, [], []⟩
def d_is_index : He.DefD := ⟨("is_index", none), "is_index", "is_index", defArgs s_is_index, defBody s_is_index, defScope s_is_index, [], []⟩
def d_reasons : He.DefD := ⟨("reasons", none), "reasons", "reasons", defArgs s_reasons, defBody s_reasons, defScope s_reasons, [], []⟩
def d_reason : He.DefD := ⟨("_reason", none), "_reason", "_reason", defArgs s_reason, defBody s_reason, defScope s_reason, [], []⟩
def d_judge_winner : He.DefD := ⟨("judge_winner", none), "judge_winner", "judge_winner", defArgs s_judge_winner, defBody s_judge_winner, defScope s_judge_winner, [], []⟩
def d_takes_reason : He.DefD := ⟨("_takes_reason", none), "_takes_reason", "_takes_reason", defArgs s_takes_reason, defBody s_takes_reason, defScope s_takes_reason, [], []⟩
def d_law_draws : He.DefD := ⟨("_law_draws", none), "_law_draws", "_law_draws", defArgs s_law_draws, defBody s_law_draws, defScope s_law_draws, [], []⟩
def d_law_draw : He.DefD := ⟨("_law_draw", none), "_law_draw", "_law_draw", defArgs s_law_draw, defBody s_law_draw, defScope s_law_draw, [], []⟩
def d_law_vector : He.DefD := ⟨("_law_vector", none), "_law_vector", "_law_vector", defArgs s_law_vector, defBody s_law_vector, defScope s_law_vector, [], []⟩
def d_law_entry : He.DefD := ⟨("_law_entry", none), "_law_entry", "_law_entry", defArgs s_law_entry, defBody s_law_entry, defScope s_law_entry, [], []⟩
def d_law_key : He.DefD := ⟨("_law_key", none), "_law_key", "_law_key", defArgs s_law_key, defBody s_law_key, defScope s_law_key, [], []⟩
def d_law_alike : He.DefD := ⟨("_law_alike", none), "_law_alike", "_law_alike", defArgs s_law_alike, defBody s_law_alike, defScope s_law_alike, [], []⟩
def d_law_due : He.DefD := ⟨("_law_due", none), "_law_due", "_law_due", defArgs s_law_due, defBody s_law_due, defScope s_law_due, [], []⟩
def d_law_spoilt : He.DefD := ⟨("_law_spoilt", none), "_law_spoilt", "_law_spoilt", defArgs s_law_spoilt, defBody s_law_spoilt, defScope s_law_spoilt, [], []⟩
def d_law : He.DefD := ⟨("law", none), "law", "law", defArgs s_law, defBody s_law, defScope s_law, [], []⟩
def fn : List He.DefD := [d_count_of, d_join, d_vector, d_counts_of, d_Entry___init__, d_Entry___eq__, d_alike, d_key_of, d_winner, d_is_integer, d_is_index, d_reasons, d_reason, d_judge_winner, d_takes_reason, d_law_draws, d_law_draw, d_law_vector, d_law_entry, d_law_key, d_law_alike, d_law_due, d_law_spoilt, d_law]
def ex : List (PySem.W.Frag → Bool) := [clsB "Entry", clsLB "Entry", neB "Entry", eqB "Entry"]
def fa : List He.Fa := [.glo "count_of", .glo "join", .glo "_vector", .glo "counts_of", .glo "alike", .glo "key_of", .glo "winner", .glo "is_integer", .glo "is_index", .glo "reasons", .glo "_reason", .glo "judge_winner", .glo "_takes_reason", .glo "_law_draws", .glo "_law_draw", .glo "_law_vector", .glo "_law_entry", .glo "_law_key", .glo "_law_alike", .glo "_law_due", .glo "_law_spoilt", .glo "law", .glo "Entry", .free "abs", .free "all", .free "bool", .free "dict", .free "enumerate", .free "int", .free "isinstance", .free "len", .free "list", .free "max", .free "min", .free "range", .free "sorted", .free "tuple", .free "zip", .cls "Entry", .noat "Entry" "name", .noat "Entry" "vector", .noat "Entry" "height", .noat "Entry" "maker", .noat "Entry" "deleted", .noat "Entry" "time", .noat "Entry" "blocks", .mkr "Entry"]
abbrev R : PySem.W.OpenRow := PySem.W.OpenLaw.row PySem.Challenge.rw_folderkin_k50_reasons_of_winners
abbrev hk : PySem.W.Hook := hookX 6 fa fn ex
def ob (s : PySem.W.SharedT) : AlX := obsXG 6 fa fn ex (HandSHeadRun.getT s)
theorem ob_eq (s : PySem.W.SharedT) : ob s = hk.obs s.abs := obsXG_eq (HandSHeadRun.getT_eq s)
theorem run (w : World) : HandSHeadRun.RunEq R (PySem.W.view R.prog [27]) hk ob 10000 ["count_of", "join", "_vector", "counts_of", "Entry", "alike", "key_of", "winner", "is_integer", "is_index", "reasons", "_reason", "judge_winner", "_takes_reason", "_law_draws", "_law_draw", "_law_vector", "_law_entry", "_law_key", "_law_alike", "_law_due", "_law_spoilt"] w := by
  intro os
  kernel_rfl
theorem facts {P : Program} {w : World} {K : PySem.W.Frag} {h : Heap} {mg : Str → Option Value} {f : Addr} (X : K.In h) (G : h.Ns mainGlobals mg) (hfa : mg ("law" : Str) = some (.ref f)) (cc : SaysX fa fn ex K) :
    ∃ fd : FuncData, (∀ (s : Shared) (v : Value), BindsTo s fd ⟨[v], []⟩ [("script", v)]) ∧ ∀ base : Heap, K.In base → base.Ns mainGlobals mg → FnOk P w K mg base CX0 7 f fd ["script"] (sp_law K) := by
  have c : He.SaysD fa fn K := cc.1
  have T : Txt K mg := ⟨He.free_ok X G (c.fact 23 (f := .free "abs") rfl), He.free_ok X G (c.fact 24 (f := .free "all") rfl), He.free_ok X G (c.fact 25 (f := .free "bool") rfl), He.free_ok X G (c.fact 26 (f := .free "dict") rfl), He.free_ok X G (c.fact 27 (f := .free "enumerate") rfl), He.free_ok X G (c.fact 28 (f := .free "int") rfl), He.free_ok X G (c.fact 29 (f := .free "isinstance") rfl), He.free_ok X G (c.fact 30 (f := .free "len") rfl), He.free_ok X G (c.fact 31 (f := .free "list") rfl), He.free_ok X G (c.fact 32 (f := .free "max") rfl), He.free_ok X G (c.fact 33 (f := .free "min") rfl), He.free_ok X G (c.fact 34 (f := .free "range") rfl), He.free_ok X G (c.fact 35 (f := .free "sorted") rfl), He.free_ok X G (c.fact 36 (f := .free "tuple") rfl), He.free_ok X G (c.fact 37 (f := .free "zip") rfl), He.cls_ok (c.fact 38 (f := .cls "Entry") rfl), He.glo_ok X G (c.fact 22 (f := .glo "Entry") rfl), He.noat_ok (c.fact 39 (f := .noat "Entry" "name") rfl), He.noat_ok (c.fact 40 (f := .noat "Entry" "vector") rfl), He.noat_ok (c.fact 41 (f := .noat "Entry" "height") rfl), He.noat_ok (c.fact 42 (f := .noat "Entry" "maker") rfl), He.noat_ok (c.fact 43 (f := .noat "Entry" "deleted") rfl), He.noat_ok (c.fact 44 (f := .noat "Entry" "time") rfl), He.noat_ok (c.fact 45 (f := .noat "Entry" "blocks") rfl), clsB_ok (cc.more 0 rfl), clsLB_ok (cc.more 1 rfl), neB_ok (cc.more 2 rfl)⟩
  obtain ⟨fd_count_of, F_count_of⟩ := c.def_ 0 (d := d_count_of) rfl
  have c_count_of : ∀ base : Heap, Cal P w K mg base 1 "count_of" (sp_count_of K) := fun base => ⟨_, _, ["vector", "device"], ok_count_of T  F_count_of, He.glo_ok X G (c.fact 0 (f := .glo "count_of") rfl), F_count_of.kp, FunD.bindsN F_count_of fun _ _ _ _ _ _ us hl => match us, hl with | [_, _], _ => rfl⟩
  obtain ⟨fd_vector, F_vector⟩ := c.def_ 2 (d := d_vector) rfl
  have c_vector : ∀ base : Heap, Cal P w K mg base 1 "_vector" (sp_vector K) := fun base => ⟨_, _, ["counts"], ok_vector T  F_vector, He.glo_ok X G (c.fact 2 (f := .glo "_vector") rfl), F_vector.kp, FunD.bindsN F_vector fun _ _ _ _ _ _ us hl => match us, hl with | [_], _ => rfl⟩
  obtain ⟨fd_Entry___init__, F_Entry___init__⟩ := c.def_ 4 (d := d_Entry___init__) rfl
  have M_Entry := He.mkr_ok (c.fact 46 (f := .mkr "Entry") rfl)
  have c_Entry : ∀ base : Heap, C8.Mak P w K mg base 1 "Entry" (He.ga K "Entry") (sp_Entry___init__ K) [] := fun base => ⟨_, _, _, [], M_Entry, ok_Entry___init__ T  F_Entry___init__, He.glo_ok X G (c.fact 22 (f := .glo "Entry") rfl), FunD.bindsN F_Entry___init__ fun _ _ _ _ _ _ us hl => match us, hl with | [_, _, _, _, _, _, _, _], _ => rfl, .nil⟩
  obtain ⟨fd_Entry___eq__, F_Entry___eq__⟩ := c.def_ 5 (d := d_Entry___eq__) rfl
  obtain ⟨q1_Entry, q2_Entry⟩ := He.ba (cc.more 3 rfl : eqB "Entry" K = true)
  have e_Entry : ∀ base : Heap, EqC P w K mg base 1 "Entry" (sp_Entry___eq__ K) := fun base => ⟨_, _, _, ok_Entry___eq__ T  F_Entry___eq__, He.eqO_ok q1_Entry, q2_Entry, FunD.bindsN F_Entry___eq__ fun _ _ _ _ _ _ us hl => match us, hl with | [_, _], _ => rfl⟩
  obtain ⟨fd_alike, F_alike⟩ := c.def_ 6 (d := d_alike) rfl
  have c_alike : ∀ base : Heap, Cal P w K mg base 1 "alike" (sp_alike K) := fun base => ⟨_, _, ["first", "second"], ok_alike T  F_alike, He.glo_ok X G (c.fact 4 (f := .glo "alike") rfl), F_alike.kp, FunD.bindsN F_alike fun _ _ _ _ _ _ us hl => match us, hl with | [_, _], _ => rfl⟩
  obtain ⟨fd_is_integer, F_is_integer⟩ := c.def_ 9 (d := d_is_integer) rfl
  have c_is_integer : ∀ base : Heap, Cal P w K mg base 1 "is_integer" (sp_is_integer K) := fun base => ⟨_, _, ["value"], ok_is_integer T  F_is_integer, He.glo_ok X G (c.fact 7 (f := .glo "is_integer") rfl), F_is_integer.kp, FunD.bindsN F_is_integer fun _ _ _ _ _ _ us hl => match us, hl with | [_], _ => rfl⟩
  obtain ⟨fd_law_draws, F_law_draws⟩ := c.def_ 15 (d := d_law_draws) rfl
  have c_law_draws : ∀ base : Heap, Cal P w K mg base 1 "_law_draws" (sp_law_draws K) := fun base => ⟨_, _, ["script"], ok_law_draws T  F_law_draws, He.glo_ok X G (c.fact 13 (f := .glo "_law_draws") rfl), F_law_draws.kp, FunD.bindsN F_law_draws fun _ _ _ _ _ _ us hl => match us, hl with | [_], _ => rfl⟩
  obtain ⟨fd_law_draw, F_law_draw⟩ := c.def_ 16 (d := d_law_draw) rfl
  have c_law_draw : ∀ base : Heap, Cal P w K mg base 1 "_law_draw" (sp_law_draw K) := fun base => ⟨_, _, ["draws", "limit"], ok_law_draw T  F_law_draw, He.glo_ok X G (c.fact 14 (f := .glo "_law_draw") rfl), F_law_draw.kp, FunD.bindsN F_law_draw fun _ _ _ _ _ _ us hl => match us, hl with | [_, _], _ => rfl⟩
  obtain ⟨fd_law_key, F_law_key⟩ := c.def_ 19 (d := d_law_key) rfl
  have c_law_key : ∀ base : Heap, Cal P w K mg base 1 "_law_key" (sp_law_key K) := fun base => ⟨_, _, ["entry"], ok_law_key T  F_law_key, He.glo_ok X G (c.fact 17 (f := .glo "_law_key") rfl), F_law_key.kp, FunD.bindsN F_law_key fun _ _ _ _ _ _ us hl => match us, hl with | [_], _ => rfl⟩
  obtain ⟨fd_law_alike, F_law_alike⟩ := c.def_ 20 (d := d_law_alike) rfl
  have c_law_alike : ∀ base : Heap, Cal P w K mg base 1 "_law_alike" (sp_law_alike K) := fun base => ⟨_, _, ["first", "second"], ok_law_alike T  F_law_alike, He.glo_ok X G (c.fact 18 (f := .glo "_law_alike") rfl), F_law_alike.kp, FunD.bindsN F_law_alike fun _ _ _ _ _ _ us hl => match us, hl with | [_, _], _ => rfl⟩
  obtain ⟨fd_join, F_join⟩ := c.def_ 1 (d := d_join) rfl
  have c_join : ∀ base : Heap, Cal P w K mg base 2 "join" (sp_join K) := fun base => ⟨_, _, ["first", "second"], ok_join T (c_vector base) F_join, He.glo_ok X G (c.fact 1 (f := .glo "join") rfl), F_join.kp, FunD.bindsN F_join fun _ _ _ _ _ _ us hl => match us, hl with | [_, _], _ => rfl⟩
  obtain ⟨fd_counts_of, F_counts_of⟩ := c.def_ 3 (d := d_counts_of) rfl
  have c_counts_of : ∀ base : Heap, Cal P w K mg base 2 "counts_of" (sp_counts_of K) := fun base => ⟨_, _, ["vector"], ok_counts_of T (c_count_of base) F_counts_of, He.glo_ok X G (c.fact 3 (f := .glo "counts_of") rfl), F_counts_of.kp, FunD.bindsN F_counts_of fun _ _ _ _ _ _ us hl => match us, hl with | [_], _ => rfl⟩
  obtain ⟨fd_is_index, F_is_index⟩ := c.def_ 10 (d := d_is_index) rfl
  have c_is_index : ∀ base : Heap, Cal P w K mg base 2 "is_index" (sp_is_index K) := fun base => ⟨_, _, ["value", "count"], ok_is_index T (c_is_integer base) F_is_index, He.glo_ok X G (c.fact 8 (f := .glo "is_index") rfl), F_is_index.kp, FunD.bindsN F_is_index fun _ _ _ _ _ _ us hl => match us, hl with | [_, _], _ => rfl⟩
  obtain ⟨fd_takes_reason, F_takes_reason⟩ := c.def_ 14 (d := d_takes_reason) rfl
  have c_takes_reason : ∀ base : Heap, Cal P w K mg base 2 "_takes_reason" (sp_takes_reason K) := fun base => ⟨_, _, ["row", "reason"], ok_takes_reason T (c_is_integer base) F_takes_reason, He.glo_ok X G (c.fact 12 (f := .glo "_takes_reason") rfl), F_takes_reason.kp, FunD.bindsN F_takes_reason fun _ _ _ _ _ _ us hl => match us, hl with | [_, _], _ => rfl⟩
  obtain ⟨fd_law_vector, F_law_vector⟩ := c.def_ 17 (d := d_law_vector) rfl
  have c_law_vector : ∀ base : Heap, Cal P w K mg base 2 "_law_vector" (sp_law_vector K) := fun base => ⟨_, _, ["draws"], ok_law_vector T (c_law_draw base) F_law_vector, He.glo_ok X G (c.fact 15 (f := .glo "_law_vector") rfl), F_law_vector.kp, FunD.bindsN F_law_vector fun _ _ _ _ _ _ us hl => match us, hl with | [_], _ => rfl⟩
  obtain ⟨fd_law_due, F_law_due⟩ := c.def_ 21 (d := d_law_due) rfl
  have c_law_due : ∀ base : Heap, Cal P w K mg base 2 "_law_due" (sp_law_due K) := fun base => ⟨_, _, ["entries"], ok_law_due T (c_law_key base) (c_law_alike base) F_law_due, He.glo_ok X G (c.fact 19 (f := .glo "_law_due") rfl), F_law_due.kp, FunD.bindsN F_law_due fun _ _ _ _ _ _ us hl => match us, hl with | [_], _ => rfl⟩
  obtain ⟨fd_law_spoilt, F_law_spoilt⟩ := c.def_ 22 (d := d_law_spoilt) rfl
  have c_law_spoilt : ∀ base : Heap, Cal P w K mg base 2 "_law_spoilt" (sp_law_spoilt K) := fun base => ⟨_, _, ["draws", "paper"], ok_law_spoilt T (c_law_draw base) F_law_spoilt, He.glo_ok X G (c.fact 20 (f := .glo "_law_spoilt") rfl), F_law_spoilt.kp, FunD.bindsN F_law_spoilt fun _ _ _ _ _ _ us hl => match us, hl with | [_, _], _ => rfl⟩
  obtain ⟨fd_key_of, F_key_of⟩ := c.def_ 7 (d := d_key_of) rfl
  have c_key_of : ∀ base : Heap, Cal P w K mg base 3 "key_of" (sp_key_of K) := fun base => ⟨_, _, ["entry"], ok_key_of T (c_counts_of base) F_key_of, He.glo_ok X G (c.fact 5 (f := .glo "key_of") rfl), F_key_of.kp, FunD.bindsN F_key_of fun _ _ _ _ _ _ us hl => match us, hl with | [_], _ => rfl⟩
  obtain ⟨fd_law_entry, F_law_entry⟩ := c.def_ 18 (d := d_law_entry) rfl
  have c_law_entry : ∀ base : Heap, Cal P w K mg base 3 "_law_entry" (sp_law_entry K) := fun base => ⟨_, _, ["draws"], ok_law_entry T (c_Entry base) (c_law_draw base) (c_law_vector base) F_law_entry, He.glo_ok X G (c.fact 16 (f := .glo "_law_entry") rfl), F_law_entry.kp, FunD.bindsN F_law_entry fun _ _ _ _ _ _ us hl => match us, hl with | [_], _ => rfl⟩
  obtain ⟨fd_reason, F_reason⟩ := c.def_ 12 (d := d_reason) rfl
  have c_reason : ∀ base : Heap, Cal P w K mg base 4 "_reason" (sp_reason K) := fun base => ⟨_, _, ["entry", "best"], ok_reason T (c_alike base) (c_key_of base) F_reason, He.glo_ok X G (c.fact 10 (f := .glo "_reason") rfl), F_reason.kp, FunD.bindsN F_reason fun _ _ _ _ _ _ us hl => match us, hl with | [_, _], _ => rfl⟩
  obtain ⟨fd_winner, F_winner⟩ := c.def_ 8 (d := d_winner) rfl
  have c_winner : ∀ base : Heap, Cal P w K mg base 5 "winner" (sp_winner K) := fun base => ⟨_, _, ["entries"], ok_winner T (c_Entry base) (c_key_of base) (c_alike base) (c_join base) F_winner, He.glo_ok X G (c.fact 6 (f := .glo "winner") rfl), F_winner.kp, FunD.bindsN F_winner fun _ _ _ _ _ _ us hl => match us, hl with | [_], _ => rfl⟩
  obtain ⟨fd_reasons, F_reasons⟩ := c.def_ 11 (d := d_reasons) rfl
  have c_reasons : ∀ base : Heap, Cal P w K mg base 5 "reasons" (sp_reasons K) := fun base => ⟨_, _, ["entries"], ok_reasons T (c_key_of base) (c_reason base) F_reasons, He.glo_ok X G (c.fact 9 (f := .glo "reasons") rfl), F_reasons.kp, FunD.bindsN F_reasons fun _ _ _ _ _ _ us hl => match us, hl with | [_], _ => rfl⟩
  obtain ⟨fd_judge_winner, F_judge_winner⟩ := c.def_ 13 (d := d_judge_winner) rfl
  have c_judge_winner : ∀ base : Heap, Cal P w K mg base 6 "judge_winner" (sp_judge_winner K) := fun base => ⟨_, _, ["entries", "entry", "paper"], ok_judge_winner T (c_is_index base) (e_Entry base) (c_winner base) (c_key_of base) (c_takes_reason base) (c_reason base) F_judge_winner, He.glo_ok X G (c.fact 11 (f := .glo "judge_winner") rfl), F_judge_winner.kp, FunD.bindsN F_judge_winner fun _ _ _ _ _ _ us hl => match us, hl with | [_, _, _], _ => rfl⟩
  obtain ⟨fd_law, F_law⟩ := c.def_ 23 (d := d_law) rfl
  have e := hfa.symm.trans (He.glo_ok X G (c.fact 21 (f := .glo "law") rfl))
  cases e
  have b := FunD.bindsA (ps := ["script"]) F_law fun _ _ _ _ _ _ us hl => match us, hl with | [_], _ => rfl
  exact ⟨fd_law, fun s v => b s [v] rfl, fun base _ _ => ok_law T (c_Entry base) (c_law_draws base) (c_law_draw base) (c_law_entry base) (c_law_due base) (c_reasons base) (c_winner base) (c_judge_winner base) (c_law_key base) (c_law_alike base) (c_law_spoilt base) F_law⟩
end Vk50
set_option maxHeartbeats 0
open PySem PySem.W PySem.Calls PyProof.Rows
theorem PySem.Challenge.cw_folderkin_k50_reasons_of_winners_holds : PySem.Challenge.rw_folderkin_k50_reasons_of_winners.Holds := by
  w_on; o_law
  refine HandSHeadRun.head_any (r := OpenLaw.row PySem.Challenge.rw_folderkin_k50_reasons_of_winners) (q := view (OpenLaw.row PySem.Challenge.rw_folderkin_k50_reasons_of_winners).prog [27]) (H := Vk50.hk) (ob := Vk50.ob) (M := 10000) (loose := ["count_of", "join", "_vector", "counts_of", "Entry", "alike", "key_of", "winner", "is_integer", "is_index", "reasons", "_reason", "judge_winner", "_takes_reason", "_law_draws", "_law_draw", "_law_vector", "_law_entry", "_law_key", "_law_alike", "_law_due", "_law_spoilt"]) (d := HandSHeadRun.topDef (OpenLaw.row PySem.Challenge.rw_folderkin_k50_reasons_of_winners).prog 27) (kwd := []) Vk50.ob_eq
    (by kernel_rfl) (fun s => by kernel_rfl) Vk50.run (by kernel_rfl) (by kernel_rfl) (by kernel_rfl) (by rfl) (by first | assumption | decide +kernel) (by decide +kernel) ⟨rfl, rfl, rfl, rfl, rfl, by decide +kernel⟩ ?hw ?hc
  case hw => w_witness2
  case hc =>
    refine L2.walk_ofE (l := PySem.Challenge.rw_folderkin_k50_reasons_of_winners) (n := 63) (k := 7) (x := "script") (CX := L2.CX0) rfl (by decide) (by kernel_rfl) ⟨rfl, by decide, by decide⟩ ?F (fun _ _ _ _ z => z)
    intro w mg fa h Y G hmg0
    obtain ⟨K, KX, c⟩ := Y
    have hmg : mg ("law" : PySem.Str) = some (.ref fa) := by
      have e : (HandSHeadRun.topDef (OpenLaw.row PySem.Challenge.rw_folderkin_k50_reasons_of_winners).prog 27).name = ("law" : PySem.Str) := by kernel_rfl
      rw [← e]
      exact hmg0
    obtain ⟨fd, hb, hF⟩ := Vk50.facts (P := (PySem.Challenge.rw_folderkin_k50_reasons_of_winners).prog) (w := w) KX G hmg c
    exact ⟨K, fd, Vk50.sp_law K, KX, hb, fun H a ns hl _ hS => ⟨_, rfl, a, ns, rfl, hS, hl, fun _ => rfl⟩, hF⟩
