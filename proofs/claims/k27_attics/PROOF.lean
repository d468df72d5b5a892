import PyProof.Rows.All
import Wide.All
import OpenK.AllK
import Wide.FinOn
import KE.KStateDown
import HandS.ForMost
import HandS.Codes
import HandS.Defaults
import HandS.Flow
import HandS.Walk
import HandS.Wide
import HandS.IsInst
import HandS.Iter
import KE.GoesMore
import KE.GoesEnum
import KE.LtData
import KE.DataCmp
import HandS.WideBits
import HandS.RevRange
import HandS.TupLe
import HandS.TupAny
import HandS.Style
import HandS.Dict
import HandS.More
import KE.KDictPairs
import KE.OsGo
import HandS.ForSpec
import HandS.ExcIs
import KE.KExcIs
import HandS.Head0
import HandS.Head1
import HandS.Head2
import HandS.HeadEnd
import HandS.HeadHook1
import HandS.HeadHook2
import HandS.OwnEq
import HandS.MakeKw
import KE.DataEq
import HandS.DictTup
import HandS.Deep
import KE.KDictWalk
import HandS.SortKw
import KE.DataMinKey
import HandS.FStr
import PyProof.NeKinds
import HandS.Gcd
import HandS.Text
import HandS.StrMore
import HandS.DictComp
import HandS.SetKeys
import KE.KEqDict
import HandS.SetFor
import HandS.Strs
import KE.DataFind
import Lean
import PySem.Challenge.RW_folderkin_k27_attics
set_option Elab.async false
set_option linter.all false
set_option maxRecDepth 100000
set_option maxHeartbeats 4000000
namespace Vf
open PySem L2 PySem.Spec PyProof.Rows

/-- what is left of a loop, of a comprehension, behind what it walks -/
def ForB (J : It) (g : TG) (t : TS) (D : Ends) (σ : L2.St) (H1 : Hp) : Prop := ∃ W : Nat → Nat → L2.St → Hp → Prop, (∃ m, W 0 m σ H1) ∧ ∀ i m σ H, W i m σ H →
  (J.stop i H ∧ D.nx σ H) ∨ (J.go i H ∧ ∃ N : L2.St → Hp → Prop, (∀ σ' H', N σ' H' → ∃ m', m' < m ∧ W (i + 1) m' σ' H') ∧ ∀ x H', J.yld i H x H' → g x σ H' fun σ2 H2 => t { D with nx := N, ct := N, bk := D.nx } σ2 H2)
def LcB (J : It) (g : TG) (tt : TT) (te : TE) (vs : List Nat) (σ : L2.St) (D : Addr) (H1 : Hp) (Q : VK) : Prop := ∃ W : Nat → Nat → Hp → Prop, (∃ m, W 0 m (upd H1 D (.lst []))) ∧ ∀ i m H, W i m H →
  (J.stop i H ∧ Q (.ref D) H) ∨ (J.go i H ∧
    ∃ Nx : Hp → Prop, (∀ H', Nx H' → ∃ m', m' < m ∧ W (i + 1) m' H') ∧
    ∀ x H', J.yld i H x H' → g x (wipe σ vs) H' fun σ2 H2 => wipe σ2 vs = wipe σ vs ∧ tt σ2 H2 fun b H3 =>
    if b = true then te σ2 H3 fun y H4 => 
      ∃ acc, H4 D = some (.lst acc) ∧ acc.length < sizeLine ∧
      Nx (upd H4 D (.lst (acc ++ [y]))) else Nx H3)
section
variable {K : PySem.W.Frag} {g : TG} {t : TS} {D : Ends} {σ : L2.St} {H : Hp} {tt : TT} {te : TE} {vs : List Nat} {Q : VK} {Da : Addr}
/-- for c in z, a text: Pv by the signs gone -/
theorem for_str {z : Str} (Pv : List Nat → L2.St → Hp → Prop) (h0 : Pv [] σ H)
    (hs : ∀ (pre : List Nat) (c : Nat) (post : List Nat) σ H, z.cps.toList = pre ++ c :: post → Pv pre σ H → g (.str ⟨#[c]⟩) σ H fun σ2 H2 => t { D with nx := Pv (pre ++ [c]), ct := Pv (pre ++ [c]), bk := D.nx } σ2 H2)
    (hd : ∀ σ H, Pv z.cps.toList σ H → D.nx σ H) : ForB (Its z) g t D σ H := by
  refine for_it walk_str (fun i => Pv (z.cps.toList.take i)) (by simpa using h0) (fun _ _ _ _ _ => trivial) (fun i x σ H H' hi p y => ?_) (fun σ H p => ?_)
  · obtain ⟨e, c, hc, hx⟩ := y
    subst e hx
    have hc' : z.cps.toList[i]? = some c := by simpa using hc
    have hi' : i < z.cps.toList.length := by simpa using hi
    have e1 : z.cps.toList = z.cps.toList.take i ++ c :: z.cps.toList.drop (i + 1) := by
      have e2 := (List.getElem?_eq_some_iff.mp hc').2
      rw [← e2, List.getElem_cons_drop, List.take_append_drop]
    have e3 : z.cps.toList.take (i + 1) = z.cps.toList.take i ++ [c] := by
      rw [List.take_add_one, hc']; rfl
    rw [e3]
    exact hs _ c _ σ _ e1 p
  · refine hd σ H ?_
    have e : z.cps.toList.take z.cps.size = z.cps.toList := List.take_of_length_le (by simp)
    rw [← e]
    exact p
theorem lc_str {z : Str} (Pv : List Nat → Hp → Prop) (h0 : Pv [] (upd H Da (.lst [])))
    (hs : ∀ (pre : List Nat) (c : Nat) (post : List Nat) H, z.cps.toList = pre ++ c :: post → Pv pre H → g (.str ⟨#[c]⟩) (wipe σ vs) H fun σ2 H2 => wipe σ2 vs = wipe σ vs ∧ tt σ2 H2 fun b H3 =>
      if b = true then te σ2 H3 fun y H4 => ∃ acc, H4 Da = some (.lst acc) ∧ acc.length < sizeLine ∧ Pv (pre ++ [c]) (upd H4 Da (.lst (acc ++ [y]))) else Pv (pre ++ [c]) H3)
    (hd : ∀ H, Pv z.cps.toList H → Q (.ref Da) H) : LcB (Its z) g tt te vs σ Da H Q := by
  refine lc_it walk_str (fun i => Pv (z.cps.toList.take i)) (by simpa using h0) (fun _ _ _ _ => trivial) (fun i x H H' hi p y => ?_) (fun H p => ?_)
  · obtain ⟨e, c, hc, hx⟩ := y
    subst e hx
    have hc' : z.cps.toList[i]? = some c := by simpa using hc
    have e1 : z.cps.toList = z.cps.toList.take i ++ c :: z.cps.toList.drop (i + 1) := by
      have e2 := (List.getElem?_eq_some_iff.mp hc').2
      rw [← e2, List.getElem_cons_drop, List.take_append_drop]
    have e3 : z.cps.toList.take (i + 1) = z.cps.toList.take i ++ [c] := by
      rw [List.take_add_one, hc']; rfl
    rw [e3]
    exact hs _ c _ _ e1 p
  · refine hd H ?_
    have e : z.cps.toList.take z.cps.size = z.cps.toList := List.take_of_length_le (by simp)
    rw [← e]
    exact p
theorem for_rng {lo : Int} {n : Nat} (Pv : Nat → L2.St → Hp → Prop) (h0 : Pv 0 σ H)
    (hs : ∀ i σ H, i < n → Pv i σ H → g (.int (lo + i)) σ H fun σ2 H2 => t { D with nx := Pv (i + 1), ct := Pv (i + 1), bk := D.nx } σ2 H2) (hd : ∀ σ H, Pv n σ H → D.nx σ H) : ForB (Itr lo n) g t D σ H := for_range Pv h0 hs hd
theorem lc_rng {lo : Int} {n : Nat} (Pv : Nat → Hp → Prop) (h0 : Pv 0 (upd H Da (.lst [])))
    (hs : ∀ i H, i < n → Pv i H → g (.int (lo + i)) (wipe σ vs) H 
      fun σ2 H2 => wipe σ2 vs = wipe σ vs ∧ tt σ2 H2 fun b H3 =>
      if b = true then te σ2 H3 fun y H4 => ∃ acc, H4 Da = some (.lst acc) ∧ acc.length < sizeLine ∧ Pv (i + 1) (upd H4 Da (.lst (acc ++ [y]))) else Pv (i + 1) H3) (hd : ∀ H, Pv n H → Q (.ref Da) H) :
    LcB (Itr lo n) g tt te vs σ Da H Q := lc_range Pv h0 hs hd
/-- for x in xs, a list: Pv by what was taken -/
theorem for_lst {a : Addr} {xs : List V} (Pv : List V → L2.St → Hp → Prop) (h0 : Pv [] σ H) (hl : ∀ pre σ H, Pv pre σ H → SqL K H a xs)
    (hs : ∀ (pre : List V) (x : V) (post : List V) σ H, xs = pre ++ x :: post → Pv pre σ H → g x σ H fun σ2 H2 => t { D with nx := Pv (pre ++ [x]), ct := Pv (pre ++ [x]), bk := D.nx } σ2 H2)
    (hd : ∀ σ H, Pv xs σ H → D.nx σ H) : ForB (Itl K a) g t D σ H := by
  refine for_list (xs := xs) (fun i => Pv (xs.take i)) (by simpa using h0) (fun i σ H _ p => hl _ σ H p) (fun i x σ H hx p => ?_) (fun σ H p => ?_)
  · have e1 : xs = xs.take i ++ x :: xs.drop (i + 1) := by
      have e2 := (List.getElem?_eq_some_iff.mp hx).2
      rw [← e2, List.getElem_cons_drop, List.take_append_drop]
    have e3 : xs.take (i + 1) = xs.take i ++ [x] := by
      rw [List.take_add_one, hx]; rfl
    rw [e3]
    exact hs _ x _ σ H e1 p
  · rw [List.take_length] at p
    exact hd σ H p
theorem lc_lst {a : Addr} {xs : List V} (Pv : List V → Hp → Prop) (h0 : Pv [] (upd H Da (.lst []))) (hl : ∀ pre H, Pv pre H → SqL K H a xs)
    (hs : ∀ (pre : List V) (x : V) (post : List V) H, xs = pre ++ x :: post → Pv pre H → g x (wipe σ vs) H fun σ2 H2 => wipe σ2 vs = wipe σ vs ∧ tt σ2 H2 fun b H3 =>
      if b = true then te σ2 H3 fun y H4 => ∃ acc, H4 Da = some (.lst acc) ∧ acc.length < sizeLine ∧ Pv (pre ++ [x]) (upd H4 Da (.lst (acc ++ [y]))) else Pv (pre ++ [x]) H3)
    (hd : ∀ H, Pv xs H → Q (.ref Da) H) : LcB (Itl K a) g tt te vs σ Da H Q := by
  refine lc_list (xs := xs) (fun i => Pv (xs.take i)) (by simpa using h0) (fun i H _ p => hl _ H p) (fun i x H hx p => ?_) (fun H p => ?_)
  · have e1 : xs = xs.take i ++ x :: xs.drop (i + 1) := by
      have e2 := (List.getElem?_eq_some_iff.mp hx).2
      rw [← e2, List.getElem_cons_drop, List.take_append_drop]
    have e3 : xs.take (i + 1) = xs.take i ++ [x] := by
      rw [List.take_add_one, hx]; rfl
    rw [e3]
    exact hs _ x _ H e1 p
  · rw [List.take_length] at p
    exact hd H p
theorem for_tpl {a : Addr} {xs : List V} (Pv : List V → L2.St → Hp → Prop) (h0 : Pv [] σ H) (hl : ∀ pre σ H, Pv pre σ H → SqT K H a xs)
    (hs : ∀ (pre : List V) (x : V) (post : List V) σ H, xs = pre ++ x :: post → Pv pre σ H → g x σ H fun σ2 H2 => t { D with nx := Pv (pre ++ [x]), ct := Pv (pre ++ [x]), bk := D.nx } σ2 H2)
    (hd : ∀ σ H, Pv xs σ H → D.nx σ H) : ForB (Itt K a) g t D σ H := by
  refine for_tup (xs := xs) (fun i => Pv (xs.take i)) (by simpa using h0) (fun i σ H _ p => hl _ σ H p) (fun i x σ H hx p => ?_) (fun σ H p => ?_)
  · have e1 : xs = xs.take i ++ x :: xs.drop (i + 1) := by
      have e2 := (List.getElem?_eq_some_iff.mp hx).2
      rw [← e2, List.getElem_cons_drop, List.take_append_drop]
    have e3 : xs.take (i + 1) = xs.take i ++ [x] := by
      rw [List.take_add_one, hx]; rfl
    rw [e3]
    exact hs _ x _ σ H e1 p
  · rw [List.take_length] at p
    exact hd σ H p
end

/-! ### readings, one lemma a head -/
section
variable {σ : L2.St} {H : Hp} {Q : VK} {D : Ends} {te ta tb tx : TE} {tt tu : TT} {t u : TS} {as : TA} {r r' : R2} {x y v : V} {K : PySem.W.Frag}
theorem e_var {i : Nat} (h : σ[i]? = some (some v)) (q : Q v H) : tVar i σ H Q := ⟨v, h, q⟩
theorem e_c (q : Q v H) : tC v σ H Q := q
theorem e_op (q : ta σ H fun x H1 => tb σ H1 fun y H2 => r x y H2 Q) : tOp r ta tb σ H Q := q
theorem e_un {r : V → Hp → VK → Prop} (q : ta σ H fun x H1 => r x H1 Q) : tUn r ta σ H Q := q
theorem e_I0 {g : Int → Int → V} {i j : Int} (q : Q (g i j) H) : rI0 g (.int i) (.int j) H Q := ⟨i, j, rfl, rfl, q⟩
theorem e_I {C : Int → Int → Prop} {g : Int → Int → V} {i j : Int} (c : C i j) (q : Q (g i j) H) : rI C g (.int i) (.int j) H Q := ⟨i, j, rfl, rfl, c, q⟩
theorem e_U {g : Int → V} {i : Int} (q : Q (g i) H) : rU g (.int i) H Q := ⟨i, rfl, q⟩
theorem e_eq (s : scal x y = true) (q : Q (.bl (decide (x = y))) H) : rEq x y H Q := ⟨s, q⟩
theorem e_ne (s : scal x y = true) (q : Q (.bl (!decide (x = y))) H) : rNe x y H Q := ⟨s, q⟩
theorem e_eqI {i j : Int} (q : Q (.bl (decide (i = j))) H) : rEq (.int i) (.int j) H Q := ⟨rfl, by
  have e : decide (V.int i = V.int j) = decide (i = j) := by
    by_cases h : i = j
    · rw [h]; simp
    · rw [decide_eq_false h, decide_eq_false (fun z => h (V.int.inj z))]
  rw [e]; exact q⟩
theorem e_neI {i j : Int} (q : Q (.bl (!decide (i = j))) H) : rNe (.int i) (.int j) H Q := ⟨rfl, by
  have e : decide (V.int i = V.int j) = decide (i = j) := by
    by_cases h : i = j
    · rw [h]; simp
    · rw [decide_eq_false h, decide_eq_false (fun z => h (V.int.inj z))]
  rw [e]; exact q⟩
theorem e_eqS {i j : Str} (q : Q (.bl (decide (i = j))) H) : rEq (.str i) (.str j) H Q := ⟨rfl, by
  have e : decide (V.str i = V.str j) = decide (i = j) := by
    by_cases h : i = j
    · rw [h]; simp
    · rw [decide_eq_false h, decide_eq_false (fun z => h (V.str.inj z))]
  rw [e]; exact q⟩
theorem e_neS {i j : Str} (q : Q (.bl (!decide (i = j))) H) : rNe (.str i) (.str j) H Q := ⟨rfl, by
  have e : decide (V.str i = V.str j) = decide (i = j) := by
    by_cases h : i = j
    · rw [h]; simp
    · rw [decide_eq_false h, decide_eq_false (fun z => h (V.str.inj z))]
  rw [e]; exact q⟩
theorem e_eqB {i j : Bool} (q : Q (.bl (i == j)) H) : rEq (.bl i) (.bl j) H Q := ⟨rfl, by
  have e : decide (V.bl i = V.bl j) = (i == j) := by cases i <;> cases j <;> rfl
  rw [e]; exact q⟩
theorem e_neB {i j : Bool} (q : Q (.bl (i != j)) H) : rNe (.bl i) (.bl j) H Q := ⟨rfl, by
  have e : (!decide (V.bl i = V.bl j)) = (i != j) := by cases i <;> cases j <;> rfl
  rw [e]; exact q⟩
theorem e_test {Q : Bool → Hp → Prop} (q : te σ H fun x H' => ∃ k, x = .bl k ∧ Q k H') : tTest te σ H Q := q
theorem e_B {Q : Bool → Hp → Prop} (q : te σ H fun x H' => ∃ k, x = .bl k ∧ Q k H') : tB te σ H Q := q
theorem e_ex {b : Bool} {P : Bool → Prop} (q : P b) : ∃ k, V.bl b = .bl k ∧ P k := ⟨b, rfl, q⟩
theorem e_and {Q : Bool → Hp → Prop} (q : tt σ H fun c H1 => if c = true then tu σ H1 Q else Q false H1) : tAnd tt tu σ H Q := q
theorem e_or {Q : Bool → Hp → Prop} (q : tt σ H fun c H1 => if c = true then Q true H1 else tu σ H1 Q) : tOr tt tu σ H Q := q
theorem e_not {Q : Bool → Hp → Prop} (q : tt σ H fun c H1 => Q (!c) H1) : tNot tt σ H Q := q
theorem e_yes {Q : Bool → Hp → Prop} (q : Q true H) : tYes σ H Q := q
theorem e_andV (q : ta σ H fun x H1 => ∃ c, x = .bl c ∧ if c = true then tb σ H1 Q else Q (.bl false) H1) : tAndV ta tb σ H Q := q
theorem e_orV (q : ta σ H fun x H1 => ∃ c, x = .bl c ∧ if c = true then Q (.bl true) H1 else tb σ H1 Q) : tOrV ta tb σ H Q := q
theorem e_notV (q : ta σ H fun x H1 => ∃ c, x = .bl c ∧ Q (.bl (!c)) H1) : tNotV ta σ H Q := q
theorem e_if (q : tt σ H fun c H1 => if c = true then ta σ H1 Q else tb σ H1 Q) : tIf tt ta tb σ H Q := q
theorem e_chain (q : ta σ H fun x H1 => tb σ H1 fun y H2 => r x y H2 fun z H3 => ∃ k, z = .bl k ∧ (if k = true then tx σ H3 fun w' H4 => r' y w' H4 Q else Q (.bl false) H3)) : tChain r r' ta tb tx σ H Q := q
theorem e_seq (q : t { D with nx := u D } σ H) : tSeq t u D σ H := q
theorem e_next (q : D.nx σ H) : tNext D σ H := q
theorem e_break (q : D.bk σ H) : tBreak D σ H := q
theorem e_cont (q : D.ct σ H) : tCont D σ H := q
theorem e_drop (q : te σ H fun _ H1 => D.nx σ H1) : tDrop te D σ H := q
theorem e_ret (q : te σ H D.rt) : tRet te D σ H := q
theorem e_retN (q : D.rt .non H) : tRetN D σ H := q
theorem e_ifS (q : tt σ H fun b H1 => if b = true then t D σ H1 else u D σ H1) : tIfS tt t u D σ H := q
theorem e_asg {g : TG} (q : te σ H fun x H1 => g x σ H1 D.nx) : tAsg te g D σ H := q
theorem e_name {i : Nat} {Q : L2.St → Hp → Prop} (q : Q (σ.set i (some v)) H) : gName i v σ H Q := q
theorem e_sub {to ti : TE} {st : TSet} {Q : L2.St → Hp → Prop} (q : to σ H fun o H1 => ti σ H1 fun i H2 => st o i v H2 fun H3 => Q σ H3) : gSub to ti st v σ H Q := q
theorem e_aug {i : Nat} {ti : TIp} (h : σ[i]? = some (some x)) (q : te σ H fun y H1 => ti x y H1 fun z H2 => D.nx (σ.set i (some z)) H2) : tAug i te ti D σ H := ⟨x, h, q⟩
theorem e_nil {Q : List V → Hp → Prop} (q : Q [] H) : tNil σ H Q := q
theorem e_cons {Q : List V → Hp → Prop} (q : ta σ H fun x H1 => as σ H1 fun xs H2 => Q (x :: xs) H2) : tCons ta as σ H Q := q
theorem e_call {sp : Sp} {dvs : List V} {E : XK} (q : as σ H fun vs H1 => sp (vs ++ dvs) H1 Q E) : tCall sp dvs E as σ H Q := q
theorem e_CB {r : List V → Hp → VK → Prop} (q : as σ H fun vs H1 => r vs H1 Q) : tCB r as σ H Q := q
theorem e_tup (q : as σ H fun xs H1 => xs.length ≤ sizeLine ∧ ∀ p, H1 p = none → Q (.ref p) (upd H1 p (.tup xs))) : tTup as σ H Q := q
theorem e_lst (q : as σ H fun xs H1 => xs.length ≤ sizeLine ∧ ∀ p, H1 p = none → Q (.ref p) (upd H1 p (.lst xs))) : tLst as σ H Q := q
theorem e_sl {r : V → Option Int → Option Int → Hp → VK → Prop} {tl th : TO} (q : te σ H fun x H1 => tl σ H1 fun l H2 => th σ H2 fun u H3 => r x l u H3 Q) : tSl r te tl th σ H Q := q
theorem e_noP {Q : Option Int → Hp → Prop} (q : Q none H) : tNoPart σ H Q := q
theorem e_part {Q : Option Int → Hp → Prop} (q : te σ H fun x H1 => ∃ i, x = .int i ∧ Q (some i) H1) : tPart te σ H Q := q
theorem e_exI {i : Int} {P : Int → Prop} (q : P i) : ∃ k, V.int i = .int k ∧ P k := ⟨i, rfl, q⟩
theorem e_bm {T : String} {r : V → List V → Hp → VK → Prop} {to : TE} (q : to σ H fun x H1 => tyV K T x H1 ∧ as σ H1 fun xs H2 => r x xs H2 Q) : tBM K T r to as σ H Q := q
theorem e_for {wi : TI} {g : TG} (q : wi σ H fun J H1 => ForB J g t D σ H1) : tFor wi g t D σ H := q
theorem e_lc {wi : TI} {g : TG} {vs : List Nat} (q : wi σ H fun J H1 => ∀ D, H1 D = none → LcB J g tt te vs σ D H1 Q) : tLc wi g tt te vs σ H Q := q
theorem e_exS {i : Str} {P : Str → Prop} (q : P i) : ∃ k, V.str i = .str k ∧ P k := ⟨i, rfl, q⟩
theorem e_exR {a : Addr} {xs : List V} {P : Addr → Prop} (h : SqL K H a xs) (q : P a) : ∃ k, V.ref a = .ref k ∧ (∃ xs, SqL K H k xs) ∧ P k := ⟨a, rfl, ⟨xs, h⟩, q⟩
theorem e_exRT {a : Addr} {xs : List V} {P : Addr → Prop} (h : SqT K H a xs) (q : P a) : ∃ k, V.ref a = .ref k ∧ (∃ xs, SqT K H k xs) ∧ P k := ⟨a, rfl, ⟨xs, h⟩, q⟩
theorem e_rng1 {n : Int} {P : Int → Prop} (h1 : -(2 ^ 62) ≤ n) (h2 : n < 2 ^ 62) (q : P n) : ∃ j : Int, [V.int n] = [.int j] ∧ -(2 ^ 62) ≤ j ∧ j < 2 ^ 62 ∧ P j := ⟨n, rfl, h1, h2, q⟩
theorem e_rng2 {m n : Int} {P : Int → Int → Prop} (h : -(2 ^ 62) ≤ m ∧ m < 2 ^ 62 ∧ -(2 ^ 62) ≤ n ∧ n < 2 ^ 62) (q : P m n) : ∃ i j : Int, [V.int m, V.int n] = [.int i, .int j] ∧ (-(2 ^ 62) ≤ i ∧ i < 2 ^ 62 ∧ -(2 ^ 62) ≤ j ∧ j < 2 ^ 62) ∧ P i j := ⟨m, n, rfl, h, q⟩
theorem e_m0 {r : V → List V → Hp → VK → Prop} {to : TE} (q : to σ H fun x H1 => (∃ a, x = .str a) ∧ r x [] H1 Q) : tM0 r to σ H Q := q
theorem e_m1 {r : V → List V → Hp → VK → Prop} {to : TE} (q : to σ H fun x H1 => (∃ a, x = .str a) ∧ te σ H1 fun y H2 => r x [y] H2 Q) : tM1 r to te σ H Q := q
theorem e_slS {z : Str} {lo hi : Option Int} (h : z.length ≤ sizeLine) (q : Q (.str (cutS z lo hi)) H) : rSlS (.str z) lo hi H Q := ⟨z, rfl, h, q⟩
theorem e_iList {R : It → Hp → Prop} {tl : TE} (q : tl σ H fun x H1 => ∃ a, x = .ref a ∧ (∃ xs, SqL K H1 a xs) ∧ R (Itl K a) H1) : iList K tl σ H R := q
theorem e_iTup {R : It → Hp → Prop} {tl : TE} (q : tl σ H fun x H1 => ∃ a, x = .ref a ∧ (∃ xs, SqT K H1 a xs) ∧ R (Itt K a) H1) : iTup K tl σ H R := q
theorem e_iStr {R : It → Hp → Prop} {tl : TE} (q : tl σ H fun v H1 => ∃ x, v = .str x ∧ R (Its x) H1) : iStr tl σ H R := q
theorem e_iRng1 {R : It → Hp → Prop} (q : as σ H fun vs H1 => ∃ j : Int, vs = [.int j] ∧ -(2 ^ 62) ≤ j ∧ j < 2 ^ 62 ∧ R (Itr 0 j.toNat) H1) : iRng1 as σ H R := q
theorem e_iRng2 {R : It → Hp → Prop} (q : as σ H fun vs H1 => ∃ i j : Int, vs = [.int i, .int j] ∧ (-(2 ^ 62) ≤ i ∧ i < 2 ^ 62 ∧ -(2 ^ 62) ≤ j ∧ j < 2 ^ 62) ∧ R (Itr i (j - i).toNat) H1) : iRng2 as σ H R := q
theorem e_ixL {p : Addr} {xs : List V} {i : Int} (h : SqL K H p xs) (ha : atI xs i = some v) (q : Q v H) : rIxL K (.ref p) (.int i) H Q := ⟨p, xs, i, v, rfl, rfl, h, ha, q⟩
theorem e_ixT {p : Addr} {xs : List V} {i : Int} (h : SqT K H p xs) (ha : atI xs i = some v) (q : Q v H) : rIxT K (.ref p) (.int i) H Q := ⟨p, xs, i, v, rfl, rfl, h, ha, q⟩
theorem e_ixS {z : Str} {i : Int} {c : Nat} (hz : z.length ≤ sizeLine) (ha : atI z.cps.toList i = some c) (q : Q (.str ⟨#[c]⟩) H) : rIxS (.str z) (.int i) H Q := ⟨z, i, c, rfl, rfl, hz, ha, q⟩
theorem e_len {p : Addr} {ys : List V} (h : SqL K H p ys) (q : Q (.int ys.length) H) : ∃ p' ys', [V.ref p] = [V.ref p'] ∧ (SqL K H p' ys' ∨ SqT K H p' ys') ∧ Q (.int (ys'.length : Nat)) H := ⟨p, ys, rfl, .inl h, q⟩
theorem e_lenT {p : Addr} {ys : List V} (h : SqT K H p ys) (q : Q (.int ys.length) H) : ∃ p' ys', [V.ref p] = [V.ref p'] ∧ (SqL K H p' ys' ∨ SqT K H p' ys') ∧ Q (.int (ys'.length : Nat)) H := ⟨p, ys, rfl, .inr h, q⟩
theorem e_lenS {z : Str} (h : z.length ≤ sizeLine) (q : Q (.int z.length) H) : ∃ z', [V.str z] = [V.str z'] ∧ z'.length ≤ sizeLine ∧ Q (.int (z'.length : Nat)) H := ⟨z, rfl, h, q⟩
theorem e_int1 {i : Int} (q : Q (.int i) H) : (∃ i', [V.int i] = [V.int i'] ∧ Q (.int i') H) ∨ ∃ k, [V.int i] = [V.bl k] ∧ Q (.int (if k = true then 1 else 0)) H := .inl ⟨i, rfl, q⟩
theorem e_setL {p : Addr} {xs : List V} {k : Int} {j : Nat} {Q : Hp → Prop} (h : H p = some (.lst xs)) (hj : ixN xs.length k = some j) (q : Q (upd H p (.lst (xs.set j v)))) : rSetL (.ref p) (.int k) v H Q := ⟨p, xs, k, j, rfl, rfl, h, hj, q⟩
theorem e_cut {Mid : L2.St → Hp → Prop} (h1 : t { D with nx := Mid } σ H) (h2 : ∀ σ' H', Mid σ' H' → u D σ' H') : C8.tCut t u D σ H := ⟨Mid, h1, h2⟩
/-- a test that is known, or open -/
theorem i_T {A B : Prop} (h : A) : if true = true then A else B := by rw [if_pos rfl]; exact h
theorem i_F {A B : Prop} (h : B) : if false = true then A else B := by rw [if_neg Bool.false_ne_true]; exact h
theorem i_d {p : Prop} [Decidable p] {A B : Prop} (h1 : p → A) (h2 : ¬ p → B) : if decide p = true then A else B := by
  by_cases h : p
  · rw [decide_eq_true h]; exact i_T (h1 h)
  · rw [decide_eq_false h]; exact i_F (h2 h)
theorem i_nd {p : Prop} [Decidable p] {A B : Prop} (h1 : ¬ p → A) (h2 : p → B) : if (!decide p) = true then A else B := by
  by_cases h : p
  · rw [decide_eq_true h]; exact i_F (h2 h)
  · rw [decide_eq_false h]; exact i_T (h1 h)
theorem i_b {b : Bool} {A B : Prop} (h1 : b = true → A) (h2 : b = false → B) : if b = true then A else B := by
  cases b
  · exact i_F (h2 rfl)
  · exact i_T (h1 rfl)
theorem i_nself {b : Bool} {A B : Prop} (h : B) : if (!(b == b)) = true then A else B := by
  rw [beq_self_eq_true]; exact i_F h
theorem i_self {α : Type} [DecidableEq α] {x : α} {A B : Prop} (h : A) : if decide (x = x) = true then A else B := by
  rw [decide_eq_true rfl]; exact i_T h
theorem i_neself {α : Type} [DecidableEq α] {x : α} {A B : Prop} (h : B) : if (!decide (x = x)) = true then A else B := by
  rw [decide_eq_true rfl]; exact i_F h
theorem i_nb {b : Bool} {A B : Prop} (h1 : b = false → A) (h2 : b = true → B) : if (!b) = true then A else B := by
  cases b
  · exact i_T (h1 rfl)
  · exact i_F (h2 rfl)
end

section
variable {K : PySem.W.Frag} {H : Hp} {Q : VK}
theorem isi_ty {x : V} {t n : String} {b : Bool} (ty : TyX K H x (.type t)) (e : PySem.W.kitOne K (.type t) (.type n) = some b) (q : Q (.bl b) H) : rIsi K [x, .ty n] H Q := ⟨x, .ty n, _, _, b, rfl, .ty n, ty, e, q⟩
theorem isi_bb {x : Bool} (q : Q (.bl true) H) : rIsi K [.bl x, .ty "bool"] H Q := isi_ty (.base (.bl x)) (kit_ty (by decide +kernel)) q
theorem isi_ib {x : Int} (q : Q (.bl false) H) : rIsi K [.int x, .ty "bool"] H Q := isi_ty (.base (.int x)) (kit_ty (by decide +kernel)) q
theorem isi_bi {x : Bool} (q : Q (.bl true) H) : rIsi K [.bl x, .ty "int"] H Q := isi_ty (.base (.bl x)) (kit_ty (by decide +kernel)) q
theorem isi_ii {x : Int} (q : Q (.bl true) H) : rIsi K [.int x, .ty "int"] H Q := isi_ty (.base (.int x)) (kit_ty (by decide +kernel)) q
theorem isi_si {x : Str} (q : Q (.bl false) H) : rIsi K [.str x, .ty "int"] H Q := isi_ty (.base (.str x)) (kit_ty (by decide +kernel)) q
theorem isi_ni (q : Q (.bl false) H) : rIsi K [.non, .ty "int"] H Q := isi_ty (.base .non) (kit_ty (by decide +kernel)) q
theorem isi_tt {p : Addr} {xs : List V} (h : H p = some (.tup xs)) (q : Q (.bl true) H) : rIsi K [.ref p, .ty "tuple"] H Q := isi_ty (.base (.tup h)) (kit_ty (by decide +kernel)) q
theorem isi_ll {p : Addr} {xs : List V} (h : H p = some (.lst xs)) (q : Q (.bl true) H) : rIsi K [.ref p, .ty "list"] H Q := isi_ty (.base (.lst h)) (kit_ty (by decide +kernel)) q
theorem isi_lt {p : Addr} {xs : List V} (h : H p = some (.lst xs)) (q : Q (.bl false) H) : rIsi K [.ref p, .ty "tuple"] H Q := isi_ty (.base (.lst h)) (kit_ty (by decide +kernel)) q
end
/-! ### defs that are called by their names -/
structure Cal (P : Program) (w : World) (K : PySem.W.Frag) (mg : Str → Option Value) (base : Heap) (k : Nat) (x : Str) (sp : Sp) : Prop where
  ex : ∃ (f : Addr) (fd : FuncData) (ps : List Str), FnOk P w K mg base CX0 k f fd ps sp ∧ mg x = some (.ref f) ∧ PySem.W.keepIn K (.ref f) = true ∧ Binds K fd ps []
theorem pe_c {X : Cx} {k j : Nat} {x : Str} {sp : Sp} {p pos : Pos} {e : Expr} {es : List Expr} {t : TA} (c : Cal X.prog X.w X.K X.mg X.base k x sp) (hr : Room j X.A) (hk : k ≤ j) (hg : Gl X x) (ha : PA X (e :: es) t)
    (hdb : (x == ("__debug__" : Str)) = false := by decide) 
    (he : starEach (e :: es) X.env = (false, eval e X.env) :: starEach es X.env := by rfl) 
    (hpl : (backTo pos (starEach es X.env)).any (·.1) = false := by rfl) :
    PE X (.Call (.Name x p) (e :: es) [] pos) (tCall sp [] E0 t) := by
  obtain ⟨f, fd, ps, F, hm, kp, b⟩ := c.ex
  exact pe_call F (hr.mono hk) hg hm kp b .nil pass0 ha hdb he hpl
theorem pe_c0 {X : Cx} {k j : Nat} {x : Str} {sp : Sp} {p pos : Pos} (c : Cal X.prog X.w X.K X.mg X.base k x sp) (hr : Room j X.A) (hk : k ≤ j) (hg : Gl X x)
    (hdb : (x == ("__debug__" : Str)) = false := by decide) :
    PE X (.Call (.Name x p) [] [] pos) (tCall sp [] E0 tNil) := by
  obtain ⟨f, fd, ps, F, hm, kp, b⟩ := c.ex
  exact pe_call0 F (hr.mono hk) hg hm kp b .nil pass0 hdb

/-- promises by arity -/
abbrev sp0 (R : Hp → VK → Prop) : Sp := fun vs H Q _ => vs = [] ∧ R H Q
abbrev sp1 (R : V → Hp → VK → Prop) : Sp := fun vs H Q _ => ∃ a, vs = [a] ∧ R a H Q
abbrev sp2 (R : V → V → Hp → VK → Prop) : Sp := fun vs H Q _ => ∃ a b, vs = [a, b] ∧ R a b H Q
abbrev sp3 (R : V → V → V → Hp → VK → Prop) : Sp := fun vs H Q _ => ∃ a b c, vs = [a, b, c] ∧ R a b c H Q
abbrev sp4 (R : V → V → V → V → Hp → VK → Prop) : Sp := fun vs H Q _ => ∃ a b c d, vs = [a, b, c, d] ∧ R a b c d H Q


theorem sz_of {n : Nat} (h : n ≤ 1000000) : n ≤ sizeLine := Nat.le_trans h (by decide)
/-! ### heaps: all but one address as it was -/
def Kp (st : Addr) (H H' : Hp) : Prop := ∀ b o, b ≠ st → H b = some o → H' b = some o
theorem Kp.refl (st : Addr) (H : Hp) : Kp st H H := fun _ _ _ h => h
theorem Kp.trans {st : Addr} {H H1 H2 : Hp} (a : Kp st H H1) (b : Kp st H1 H2) : Kp st H H2 := fun c o n h => b c o n (a c o n h)
theorem Kp.of {st : Addr} {H H' : Hp} (a : Same H H') : Kp st H H' := fun c o _ h => a c o h
theorem same_new {H : Hp} {p : Addr} {o : HO} (h : H p = none) : Same H (upd H p o) := fun b x e => by
  rw [upd_ne (ne_of_none e h)]
  exact e
theorem Kp.new {st p : Addr} {H : Hp} {o : HO} (h : H p = none) : Kp st H (upd H p o) := Kp.of (same_new h)
/-- an object that was not there at first may change -/
theorem Kp.mut {st p : Addr} {H H' : Hp} {o : HO} (a : Kp st H H') (h : H p = none) : Kp st H (upd H' p o) := fun b x n e => by
  rw [upd_ne (ne_of_none e h)]
  exact a b x n e
theorem Kp.put {st : Addr} {H H' : Hp} {o : HO} (a : Kp st H H') : Kp st H (upd H' st o) := fun b x n e => by
  rw [upd_ne n]
  exact a b x n e
theorem Same.mut {p : Addr} {H H' : Hp} {o : HO} (a : Same H H') (h : H p = none) : Same H (upd H' p o) := fun b x e => by
  rw [upd_ne (ne_of_none e h)]
  exact a b x e
theorem Kp.free {st p : Addr} {H H' : Hp} (a : Kp st H H') (hs : ∃ o, H' st = some o) (h : H' p = none) : H p = none := by
  cases q : H p with
  | none => rfl
  | some o =>
    by_cases e : p = st
    · obtain ⟨o', h'⟩ := hs
      rw [e, h'] at h
      cases h
    · rw [a p o e q] at h
      cases h

/-- the state of the draws and the script: two ints at st, the script at sc whatever is drawn -/
structure Dr (K : PySem.W.Frag) (st sc : Addr) (ns : List Int) (H : Hp) : Prop where
  s : ∃ a b : Int, 0 ≤ a ∧ 0 ≤ b ∧ H st = some (.lst [.int a, .int b])
  sc : ∀ H', Kp st H H' → SqL K H' sc (ns.map V.int)
  len : ns.length ≤ 63
theorem Dr.kp {K : PySem.W.Frag} {st sc : Addr} {ns : List Int} {H H' : Hp} (d : Dr K st sc ns H) (k : Kp st H H') (s : ∃ a b : Int, 0 ≤ a ∧ 0 ≤ b ∧ H' st = some (.lst [.int a, .int b])) : Dr K st sc ns H' :=
  ⟨s, fun H2 k2 => d.sc H2 (k.trans k2), d.len⟩
theorem Dr.same {K : PySem.W.Frag} {st sc : Addr} {ns : List Int} {H H' : Hp} (d : Dr K st sc ns H) (k : Same H H') : Dr K st sc ns H' := by
  obtain ⟨a, b, h1, h2, h3⟩ := d.s
  exact d.kp (Kp.of k) ⟨a, b, h1, h2, k _ _ h3⟩
theorem Dr.seq {K : PySem.W.Frag} {st sc : Addr} {ns : List Int} {H : Hp} (d : Dr K st sc ns H) : SqL K H sc (ns.map V.int) := d.sc H (Kp.refl st H)
theorem sq_keep {K : PySem.W.Frag} {H H' : Hp} {a p : Addr} {xs : List V} (h : SqL K H a xs) (hp : H p = none) (k : Kp p H H') : SqL K H' a xs := by
  rcases h with (h | ⟨c9, h⟩) | h
  · exact .inl (.inl (k _ _ (ne_of_none h hp) h))
  · exact .inl (.inr ⟨c9, k _ _ (ne_of_none h hp) h⟩)
  · exact .inr h
theorem Dr.start {K : PySem.W.Frag} {st sc : Addr} {ns : List Int} {H : Hp} (h : SqL K H sc (ns.map V.int)) (hp : H st = none) (hl : ns.length ≤ 63) : Dr K st sc ns (upd H st (.lst [.int 0, .int 0])) :=
  ⟨⟨0, 0, by decide, by decide, upd_same⟩, fun H' k => sq_keep h hp fun b o n e => k b o n (by rw [upd_ne n]; exact e), hl⟩
theorem Dr.ne {K : PySem.W.Frag} {st sc p : Addr} {ns : List Int} {H : Hp} (d : Dr K st sc ns H) (h : H p = none) : p ≠ st := by
  obtain ⟨a, b, _, _, h3⟩ := d.s
  intro e
  rw [e, h3] at h
  cases h
theorem pick_int {l : List Int} {d : Int} (h0 : 0 ≤ d) (h1 : d < l.length) : ∃ n, n ∈ l ∧ atI (l.map V.int) d = some (.int n) := by
  have h : d.toNat < l.length := by omega
  exact ⟨l[d.toNat], List.getElem_mem h, at_of (j := d.toNat) (by omega) (by rw [List.getElem?_map, List.getElem?_eq_getElem h]; rfl)⟩
theorem pick_nat {l : List Nat} {d : Int} (h0 : 0 ≤ d) (h1 : d < l.length) : ∃ n, n ∈ l ∧ atI l d = some n := by
  have h : d.toNat < l.length := by omega
  obtain ⟨j, hj⟩ : ∃ j : Nat, d = (j : Int) := ⟨d.toNat, by omega⟩
  have h2 : j < l.length := by omega
  subst hj
  exact ⟨l[j], List.getElem_mem h2, atI_nat (List.getElem?_eq_getElem h2)⟩
theorem at_last {ns : List Int} (h : 0 < ns.length) : ∃ x, atI (ns.map V.int) (-1) = some (.int x) := by
  have e : ns = ns.dropLast ++ [ns.getLast (by intro q; rw [q] at h; cases h)] := (List.dropLast_concat_getLast _).symm
  rw [e, List.map_append]
  exact ⟨_, atI_last _ _⟩
theorem pick_sign {z : Str} {d : Int} (h0 : 0 ≤ d) (h1 : d < (z.length : Int)) : ∃ c, c ∈ z.cps.toList ∧ atI z.cps.toList d = some c :=
  pick_nat h0 (by simpa [Str.length] using h1)
theorem len_app (a b : Str) : (a ++ b).length = a.length + b.length := PySem.Str.length_append a b
/-- what a call behind which only the draws' state has changed hands on -/
def RDraw (K : PySem.W.Frag) (st sc : Addr) (ns : List Int) (H : Hp) (G : Hp → Prop) : Prop := Dr K st sc ns H ∧ ∀ H', Kp st H H' → Dr K st sc ns H' → G H'
theorem Dr.mut {K : PySem.W.Frag} {st sc p : Addr} {ns : List Int} {H0 H1 : Hp} {o : HO} (d0 : Dr K st sc ns H0) (d : Dr K st sc ns H1) (hp : H0 p = none) (k : Kp st H0 H1) : Dr K st sc ns (upd H1 p o) := by
  obtain ⟨a, b, h1, h2, h3⟩ := d.s
  exact d0.kp (k.mut hp) ⟨a, b, h1, h2, by rw [upd_ne (d0.ne hp).symm]; exact h3⟩
section
variable {K : PySem.W.Frag} {g : TG} {σ : L2.St} {te : TE} {vs : List Nat} {Q : VK} {Da st sc : Addr} {ns : List Int} {H0 : Hp}
/-- [e for k in range(..)], e with draws -/
theorem lc_dr {lo : Int} {n : Nat} (d0 : Dr K st sc ns H0) (hD : H0 Da = none) (hn : n ≤ 1000000) (Pe : V → Prop)
    (hs : ∀ (i : Nat) (H2 : Hp) (C : VK) (E : Hp → Prop), i < n → Kp st H0 H2 → Dr K st sc ns H2 → (∀ y H3, Kp st H2 H3 → Dr K st sc ns H3 → Pe y → C y H3) →
      g (.int (lo + i)) (wipe σ vs) H2 fun σ2 H2 => wipe σ2 vs = wipe σ vs ∧ tYes σ2 H2 fun b H3 => if b = true then te σ2 H3 C else E H3)
    (hd : ∀ (H : Hp) (xs : List V), Kp st H0 H → Dr K st sc ns H → H Da = some (.lst xs) → xs.length = n → (∀ x ∈ xs, Pe x) → Q (.ref Da) H) : LcB (Itr lo n) g tYes te vs σ Da H0 Q := by
  have nD := d0.ne hD
  refine lc_rng (fun i H2 => Kp st H0 H2 ∧ Dr K st sc ns H2 ∧ ∃ xs : List V, H2 Da = some (.lst xs) ∧ xs.length = i ∧ ∀ x ∈ xs, Pe x) ⟨Kp.new hD, d0.same (same_new hD), [], upd_same, rfl, fun _ hy => by cases hy⟩ (fun i H2 hi p => ?_) (fun H2 p => ?_)
  · obtain ⟨k4, d4, xs, e4, l4, o4⟩ := p
    refine hs i H2 _ _ hi k4 d4 fun y H3 k5 d5 hy => ?_
    refine ⟨xs, k5 _ _ nD e4, Nat.lt_of_le_of_lt (Nat.le_of_lt (by omega : xs.length < 1000001)) (by decide), (k4.trans k5).mut hD, Dr.mut d0 d5 hD (k4.trans k5), xs ++ [y], upd_same, by simp [l4], fun z hz => ?_⟩
    rcases List.mem_append.mp hz with h | h
    · exact o4 z h
    · rw [List.mem_singleton.mp h]; exact hy
  · obtain ⟨k4, d4, xs, e4, l4, o4⟩ := p
    exact hd H2 xs k4 d4 e4 l4 o4
/-- [e for k in range(..)], e a function of k -/
theorem lc_map_rng {lo : Int} {n : Nat} (hD : H0 Da = none) (hn : n ≤ 1000000) (f : Nat → V)
    (hs : ∀ (i : Nat) (H2 : Hp) (C : VK) (E : Hp → Prop), i < n → Same H0 H2 → (∀ H3, Same H2 H3 → C (f i) H3) →
      g (.int (lo + i)) (wipe σ vs) H2 fun σ2 H2 => wipe σ2 vs = wipe σ vs ∧ tYes σ2 H2 fun b H3 => if b = true then te σ2 H3 C else E H3)
    (hd : ∀ (H : Hp), Same H0 H → H Da = some (.lst ((List.range n).map f)) → Q (.ref Da) H) : LcB (Itr lo n) g tYes te vs σ Da H0 Q := by
  refine lc_rng (fun i H2 => Same H0 H2 ∧ H2 Da = some (.lst ((List.range i).map f))) ⟨same_new hD, upd_same⟩ (fun i H2 hi p => ?_) (fun H2 p => hd H2 p.1 p.2)
  obtain ⟨k4, e4⟩ := p
  refine hs i H2 _ _ hi k4 fun H3 k5 => ?_
  refine ⟨_, k5 _ _ e4, Nat.lt_of_le_of_lt (by simp; omega : _ ≤ 1000000) (by decide), Same.mut (k4.trans k5) hD, ?_⟩
  rw [upd_same, List.range_succ, List.map_append]
  rfl
/-- [e for x in xs], a list, e a function of x -/
theorem lc_map_lst {a : Addr} {xs : List V} (hS : SqL K H0 a xs) (hD : H0 Da = none) (hn : xs.length ≤ 1000000) (f : V → V)
    (hs : ∀ (x : V) (H2 : Hp) (C : VK) (E : Hp → Prop), x ∈ xs → Same H0 H2 → (∀ H3, Same H2 H3 → C (f x) H3) →
      g x (wipe σ vs) H2 fun σ2 H2 => wipe σ2 vs = wipe σ vs ∧ tYes σ2 H2 fun b H3 => if b = true then te σ2 H3 C else E H3)
    (hd : ∀ (H : Hp), Same H0 H → H Da = some (.lst (xs.map f)) → Q (.ref Da) H) : LcB (Itl K a) g tYes te vs σ Da H0 Q := by
  refine lc_lst (xs := xs) (fun pre H2 => Same H0 H2 ∧ H2 Da = some (.lst (pre.map f)) ∧ pre.length ≤ xs.length) ⟨same_new hD, upd_same, Nat.zero_le _⟩ (fun pre H2 p => p.1.seq hS) (fun pre x post H2 e p => ?_) (fun H2 p => hd H2 p.1 p.2.1)
  obtain ⟨k4, e4, l4⟩ := p
  refine hs x H2 _ _ (by rw [e]; simp) k4 fun H3 k5 => ?_
  refine ⟨_, k5 _ _ e4, Nat.lt_of_le_of_lt (by simp; omega : _ ≤ 1000000) (by decide), Same.mut (k4.trans k5) hD, ?_, by rw [e]; simp⟩
  rw [upd_same, List.map_append]
  rfl
end
/-- a draw: any number below the size -/
def spDraw (K : PySem.W.Frag) : Sp := sp3 fun a b c H Q => ∃ (st sc : Addr) (ns : List Int) (n : Int), a = .ref st ∧ b = .ref sc ∧ c = .int n ∧ Dr K st sc ns H ∧ 0 < n ∧ n < 2 ^ 60 ∧
  ∀ (d : Int) (H' : Hp), 0 ≤ d → d < n → Kp st H H' → Dr K st sc ns H' → Q (.int d) H'

abbrev FnP (K : PySem.W.Frag) (x : Str) (st : Stmt) (f : Addr) (fd : FuncData) : Prop :=
  FunD K x x (defArgs st) (defBody st) (defScope st) [] [] f fd
end Vf

namespace PySem
open Sem (wp)
theorem meets_enumerate_newTup (l : Addr) (row : Array Value) (ob : Obj) (cap : Nat) :
    Meets (Builtin.«enumerate.__new__» ⟨[.type "enumerate", .ref l], []⟩) (fun _ R s => (s.heap.get? l = some ob ∧ ob.cls = .type "tuple" ∧ ob.data = .seq row cap) ∧
      R (.ok (.ret (.ref (s.heap.push { cls := .type "tuple_iterator", data := .fields #[.ref l, .int 0 0] }).objs.size)))
        { s with heap := (s.heap.push { cls := .type "tuple_iterator", data := .fields #[.ref l, .int 0 0] }).push { cls := .type "enumerate", data := .fields #[.none, .bool false, .ref s.heap.objs.size, rawInt 0, .none, .none] } }) :=
  .of_wp fun prg w A R s h => by
    obtain ⟨hp, g, d, tk, os⟩ := s; obtain ⟨⟨hl9, wc, wd⟩, h⟩ := h
    have hsub := sub_enumerate
    have isT : Heap.IsTuple (Shared.heap ⟨hp, g, d, tk, os⟩) l row := ⟨_, hl9, wc, cap, wd⟩
    have q1 : ∀ {A' : Around} {E : Value → Shared → Prop} {Q : Value → Shared → Prop}, Q (.ref hp.objs.size) ⟨hp.push { cls := .type "tuple_iterator", data := .fields #[.ref l, .int 0 0] }, g, d, tk, os⟩ → wpAny (model prg w) A' (pyIter (.ref l)) Q E ⟨hp, g, d, tk, os⟩ :=
      fun q => wpAny_pyIter_tuple isT q
    wp_walk using q1
    refine wpAny_stack_any fun here => wpAny_pure ?_
    split
    · rename_i cls9 _ _ _ _ _
      cases (cls9 == Value.type "enumerate")
      · wp_walk using q1
        exact ⟨_, rfl, h⟩
      · wp_walk using q1
        exact ⟨_, rfl, h⟩
    · wp_walk using q1
      exact ⟨_, rfl, h⟩
section
variable {prg : Program} {w : World} {A : Around} {E : Value → Shared → Prop} {s : Shared}
/-- the object that enumerate makes, and the turning over a tuple -/
abbrev enOf (it : Addr) : Obj := { data := .fields #[.none, .bool false, .ref it, rawInt 0, .none, .none], cls := .type "enumerate" }
abbrev tiOf (l : Addr) : Obj := { data := .fields #[.ref l, .int 0 0], cls := .type "tuple_iterator" }
theorem call_enumerate_tup {l : Addr} {row : Array Value} {Q : Value → Shared → Prop} (isT : s.heap.IsTuple l row)
    (h : ∀ h', IsEnum h' (s.heap.objs.size + 1) s.heap.objs.size 0 .none → h'.IsTupleIter s.heap.objs.size l 0 → h'.objs.size = s.heap.objs.size + 2 →
      (∀ bb ob, s.heap.get? bb = some ob → h'.get? bb = some ob) → Q (.ref (s.heap.objs.size + 1)) { s with heap := h' }) :
    wpAny (model prg w) A
      (call (.type "enumerate") [.ref l]) Q E s := by
  obtain ⟨ob, hl9, wc, cap, wd⟩ := isT
  refine callType_new F.called_enumerate (by decide) (F.typeCall_enumerate_1 _)
    (F.newCall_enumerate_1 _) (fun it => F.args_object_init_2 it _) F.entry_enumerate_new (meets_enumerate_newTup l row ob cap) ⟨⟨hl9, wc, wd⟩, ?_⟩
  have szz : (s.heap.push (tiOf l)).objs.size = s.heap.objs.size + 1 := Heap.size_push ..
  show _ ∧ _
  rw [szz]
  have qe : IsEnum ((s.heap.push (tiOf l)).push
      (enOf s.heap.objs.size)) (s.heap.objs.size + 1) s.heap.objs.size 0 .none := by
    have := Heap.get?_push_size (s.heap.push (tiOf l))
      (o := enOf s.heap.objs.size) rfl
    rw [szz] at this; exact this
  refine ⟨⟨_, qe, rfl⟩, h _ qe ⟨_, Heap.get?_push_of_some _ (Heap.get?_push_size _ rfl), rfl, rfl⟩ (by rw [Heap.size_push, szz]) fun bb ob x => Heap.get?_push_of_some _ (Heap.get?_push_of_some _ x)⟩
theorem enumT_end {e it t : Addr} {i : Nat} {row : Array Value} {prev : Value} {Q : Option Value → Shared → Prop} (hh : A.handled = none)
    (qe : IsEnum s.heap e it i prev) (qi : s.heap.IsTupleIter it t i) (hl9 : s.heap.IsTuple t row) (ne2 : t ≠ it) (atx : row[i]? = none)
    (hQ : ∀ h', Heap.ExtBut it s.heap h' → Q none { s with heap := h' }) : wpAny (model prg w) A (pyNext (.ref e)) Q E s := by
  have ty1 : s.TypeIs (.ref e) "enumerate" := ⟨_, qe, rfl⟩
  unfold pyNext
  refine wpAny_bind (wpAny_attempt (wpAny_callSpecial?_slot (name := Str.ofString "__next__") ty1 F.slot_enumerate_next
    (wpAny_call_entry F.slot_enumerate_next ty1 F.entry_enumerate_next ?_ (F.args_enumerate_next_1 _))))
  show wpAny (model prg w) A.in1
    (field (.ref e) 2 >>= _) _ _ s
  refine wpAny_bind (wpAny_field qe rfl (x := .ref it) rfl ?_)
  refine wpAny_bind (wpAny_nextOf_tuple_end hh qi hl9 atx fun h' x he' hx' => ?_)
  obtain ⟨ob, wo, wc⟩ := hx'
  refine wpAny_bind (wpAny_isInstance (T := "StopIteration") (b := true) ⟨ob, wo, wc⟩ isSubtype_stop ?_)
  exact wpAny_pure (hQ _ he')
end
end PySem
namespace Vf
open PySem L2 PySem.Spec PyProof.Rows
/-- enumerate(t), t a tuple -/
def IteT (K : PySem.W.Frag) (a : Addr) : It :=
  ⟨fun i H => ∃ (xs : List V) (x : V), SqT K H a xs ∧ xs[i]? = some x, fun i H v H' => ∃ T x, v = .ref T ∧ H T = none ∧ H' = upd H T (.tup [.int (i : Nat), x]) ∧ ∀ xs, SqT K H a xs → xs[i]? = some x, fun i H => ∃ xs : List V, SqT K H a xs ∧ xs.length ≤ i⟩
theorem turn_enumT {P : Program} {w : World} {K : PySem.W.Frag} {elts : List Expr} {kk : Nat} {tpos : Pos} (a e it : Addr) :
    Turn P w K (.Tuple elts kk tpos) (IteT K a) [e, it] e (fun i h => (∃ prev, IsEnum h e it ((i : Nat) : Int) prev) ∧ h.IsTupleIter it a i ∧ e ≠ it) where
  mem := by simp
  obj := fun i h here bb mb => by
    obtain ⟨⟨prev, qe⟩, ⟨ob, wo, wc, wd⟩, _⟩ := here
    have e' : bb = e ∨ bb = it := by simpa using mb
    rcases e' with z | z
    · rw [z]; exact ⟨_, qe, fun v q => nomatch q⟩
    · rw [z]; exact ⟨ob, wo, fun v q => by rw [wd] at q; cases q⟩
  keep := fun i h h' here k => let ⟨⟨prev, qe⟩, hi9, qn⟩ := here; ⟨⟨prev, k e (by simp) _ qe⟩, hi9.at fun ob q => k it (by simp) ob q, qn⟩
  item := by
    intro X hP hw hK wc i pins s σ H E I fp here got
    subst hP hw hK
    obtain ⟨⟨prev, qe⟩, qi, qn⟩ := here
    obtain ⟨xs, x, wq, atx⟩ := got
    obtain ⟨cells, rds, p, szz⟩ := I.tuple wq
    obtain ⟨u, mu, rdu⟩ := rds.get atx
    have le1 : e < s.heap.objs.size := Heap.lt_size qe
    have le2 : it < s.heap.objs.size := by obtain ⟨_, q, _⟩ := qi; exact Heap.lt_size q
    have ne1 : a ≠ e := by
      intro z
      obtain ⟨ob, wo, hc2, _⟩ := p
      rw [z, qe] at wo
      cases wo
      injection hc2 with q
      exact absurd q (by decide)
    have ne2 : a ≠ it := by
      intro z
      obtain ⟨ob, wo, hc2, _⟩ := p
      obtain ⟨o2, ho2, hc3, _⟩ := qi
      rw [z, ho2] at wo
      cases wo
      rw [hc3] at hc2
      injection hc2 with q
      exact absurd q (by decide)
    have hlt : i < cells.toArray.size := by
      have := (List.getElem?_eq_some_iff.mp mu).1
      simpa using this
    refine wpAny_pyNext_enum_itemD (Draws.tuple (A := X.A.in1) (show X.A.in1.handled = none from I.ok.hd wc) it a ne2 cells.toArray) qe ⟨qi, p⟩ hlt qn (by simp [qn, Ne.symm ne1]) fun x' h' tk hP wo hst' ty1 hsz keep1 => ?_
    have ex : x' = u := by
      have q1 : cells[i]? = some x' := by simpa using hP
      exact Option.some.inj (q1.symm.trans mu)
    subst ex
    refine ⟨_, rfl, wpAny_letOwnedTupleGo_enum (s := { s with heap := h', toks := tk + 1 }) wo fun h'' he' only1 => ?_⟩
    have ty2 : h''.get? s.heap.objs.size = some { cls := .type "tuple", data := .seq #[.int i tk, x'] } := (only1.2 _ (Nat.ne_of_gt le1)).trans ty1
    have fresh1 : ObjOk X.prog X.w (upd H s.heap.objs.size (.tup [.int (i : Nat), x])) h'' s.heap.objs.size (.tup [.int (i : Nat), x]) :=
      ⟨by show 2 ≤ sizeLine; decide, [.int i tk, x'], .cons ⟨_, rfl⟩ (.cons rdu .nil), ⟨_, ty2, rfl, _, rfl⟩⟩
    have J1 : Inv X pins σ (upd H s.heap.objs.size (.tup [.int (i : Nat), x])) { s with heap := h'', toks := tk + 1 } :=
      I.turnedNew (ch := [e, it]) (fun bb ob mb q => (only1.2 bb (fun z => mb (by simp [z]))).trans (keep1 bb ob (fun z => mb (by simp [z])) (fun z => mb (by simp [z])) q)) fp (Nat.le_refl _) fresh1
    refine ⟨.ref s.heap.objs.size, _, J1, rfl, ⟨_, x, rfl, I.hok.fresh (Nat.le_refl _), rfl, fun ys hy => by rw [I.tuple_inj hy wq]; exact atx⟩, ⟨⟨x', ?_⟩, hst'.1.at fun ob q => (only1.2 it (Ne.symm qn)).trans q, qn⟩, fun bb mb => ?_⟩
    · have up1 : ((i + 1 : Nat) : Int) = (i : Int) + 1 := by
        omega
      rw [up1]; exact he'
    · have below : bb < s.heap.objs.size := by
        have two : bb = e ∨ bb = it := by simpa using mb
        rcases two with rfl | rfl
        · exact le1
        · exact le2
      rw [upd_ne (Nat.ne_of_lt below)]
      exact (fp bb mb).1
  done := by
    intro X hP hw hK wc i pins s σ H E I fp here got
    subst hP hw hK
    obtain ⟨⟨prev, qe⟩, qi, qn⟩ := here
    obtain ⟨xs, wq, atx⟩ := got
    obtain ⟨cells, rds, p, szz⟩ := I.tuple wq
    obtain ⟨f0, f1, f2, f3, f4, f5⟩ := fp it (by simp)
    have hl := rds.length
    have ne2 : a ≠ it := by
      intro z
      obtain ⟨ob, wo, hc2, _⟩ := p
      obtain ⟨o2, ho2, hc3, _⟩ := qi
      rw [z, ho2] at wo
      cases wo
      rw [hc3] at hc2
      injection hc2 with q
      exact absurd q (by decide)
    refine enumT_end (I.ok.hd wc) qe qi p ne2 (by simp; omega) fun h' eb => ⟨rfl, I.turned (t' := s.toks) (fun bb ob mb q => eb bb ob mb q) f0 f1 f3 f4 f5⟩
  self := fun A i s Q E here h => let ⟨⟨_, qe⟩, _⟩ := here; wpAny_pyIter_enum qe h
def iEnumT (K : PySem.W.Frag) (ta : TA) : TI := fun σ H R => ta σ H fun vs H1 => ∃ a xs, vs = [.ref a] ∧ SqT K H1 a xs ∧ R (IteT K a) H1
theorem pi_enumT {X : Cx} {e : Expr} {ta : TA} {p pos tpos : Pos} {elts : List Expr} {kk : Nat} (got : Gl X "enumerate") (hm : X.mg "enumerate" = none) (ha : PA X [e] ta) (hs : starEach [e] X.env = [(false, eval e X.env)] := by rfl) :
    PI X (.Tuple elts kk tpos) (.Call (.Name "enumerate" p) [e] [] pos) (iEnumT X.K ta) := by
  constructor
  intro pins s σ H R I h
  refine Call_ (ld_blt I got hm boot_enumerate (PyProof.Rows.callWith_type1 (thn (ha.run pos pins s σ H _ I h) fun us s1 ⟨vs, H1, J1, r1, q1⟩ => ?_) hs rfl))
  obtain ⟨a, xs, ex, wq, q⟩ := q1
  subst ex
  cases r1 with
  | cons r rr =>
    cases rr
    cases r
    obtain ⟨cells, rds, p', szz⟩ := J1.tuple wq
    refine call_enumerate_tup p' fun h' qe qi hsz keep1 => wpAny_pyIter_enum qe ?_
    have J2 : Inv X pins σ H1 { s1 with heap := h' } := J1.kept (t' := s1.toks) keep1
    refine ⟨s1.heap.objs.size + 1, [s1.heap.objs.size + 1, s1.heap.objs.size], _, _, H1, rfl, J2, turn_enumT a (s1.heap.objs.size + 1) s1.heap.objs.size, ⟨⟨.none, qe⟩, qi, Nat.succ_ne_self _⟩, fun bb mb => ?_, q⟩
    have e' : bb = s1.heap.objs.size + 1 ∨ bb = s1.heap.objs.size := by simpa using mb
    have above : bb ≥ s1.heap.objs.size := by
      rcases e' with w9 | w9 <;> rw [w9]
      · exact Nat.le_succ _
      · exact Nat.le.refl
    exact J1.fpOk above (J1.hok.fresh above)
/-- enumerate of a list or of a tuple -/
theorem pi_or {X : Cx} {tg l : Expr} {w1 w2 : TI} (h1 : PI X tg l w1) (h2 : PI X tg l w2) : PI X tg l (fun σ H R => w1 σ H R ∨ w2 σ H R) := ⟨fun pins s σ H R I h => by
  rcases h with h | h
  · exact h1.run pins s σ H R I h
  · exact h2.run pins s σ H R I h⟩
end Vf

namespace Vf
open PySem L2 PySem.Spec PyProof.Rows
/-! ### rules with the written part named (inside a comprehension nothing may lean on its block) -/
section
variable {X : Cx} (K : PySem.W.Frag) {pos : Pos}
theorem ixL (hK : X.K = K := by rfl) : IxR X (rIxL K) := hK ▸ ix_list
theorem ixT (hK : X.K = K := by rfl) : IxR X (rIxT K) := hK ▸ ix_tup
theorem slL (hK : X.K = K := by rfl) : SlR X (rSlL K) := hK ▸ sl_list
theorem slT (hK : X.K = K := by rfl) : SlR X (rSlA K) := hK ▸ sl_tupA
theorem eqDK (hu : X.A.units + 64 < cLine) (hK : X.K = K := by rfl) : OpR X (compareOp .Eq) (rEqD K) := hK ▸ op_eqD hu
theorem neDK (hu : X.A.units + 64 < cLine) (hK : X.K = K := by rfl) : OpR X (compareOp .NotEq) (rNeD K) := hK ▸ op_neD hu
theorem inSK (hK : X.K = K := by rfl) : OpR X (compareOp .In) (rIn K false) := hK ▸ op_in_seq
theorem niSK (hK : X.K = K := by rfl) : OpR X (compareOp .NotIn) (rIn K true) := hK ▸ op_notIn_seq
theorem lenSK (hK : X.K = K := by rfl) : CallR X (.builtin "len") (fun xs H Q => ∃ p ys, xs = [.ref p] ∧ (SqL K H p ys ∨ SqT K H p ys) ∧ Q (.int (ys.length : Nat)) H) := hK ▸ call_len_seq
theorem lstOK (hK : X.K = K := by rfl) : CallR X (.type "list") (fun xs H Q => ∃ p ys, xs = [.ref p] ∧ (SqL K H p ys ∨ SqT K H p ys) ∧ ∀ l, H l = none → Q (.ref l) (upd H l (.lst ys))) := hK ▸ call_list_of
theorem isiK (hK : X.K = K := by rfl) : CallR X (.builtin "isinstance") (rIsi K) := hK ▸ call_isi
theorem pe_fldK {e : Expr} {f : Str} {ta : TE} (ha : PE X e ta) (hb : attributeBase e f X.env (eval e X.env) = eval e X.env := by rfl) (hK : X.K = K := by rfl) : PE X (.Attribute e f pos) (tFld K ta f) := hK ▸ pe_fld ha hb
theorem pg_tupK {es : List Expr} {k : Nat} {t : TGs} {n : Nat} (hc : X.calm = true) (h : PGs X es t)
    (hn : (assignEach es X.env).length = n := by rfl) (hst : (assignEach es X.env).findIdx? (·.1) = none := by rfl) (hK : X.K = K := by rfl) : PG X (.Tuple es k pos) (gTup K n t) := hK ▸ pg_tup hc h hn hst
end
/-! ### readings of these -/
section
variable {σ : L2.St} {H : Hp} {K : PySem.W.Frag} {ta tb : TE} {as : TA}
theorem e_iRevR {tr : L2.St → Hp → (Int → Int → Hp → Prop) → Prop} {R : It → Hp → Prop} (q : tr σ H fun a b H1 => -(2 ^ 62) ≤ a ∧ a < 2 ^ 62 ∧ -(2 ^ 62) ≤ b ∧ b < 2 ^ 62 ∧ R (Itc (a + (((b - a).toNat : Nat) : Int) - 1) (-1) (b - a).toNat) H1) : iRevR tr σ H R := q
theorem e_rg1 {Q : Int → Int → Hp → Prop} (q : ta σ H fun x H1 => ∃ n, x = .int n ∧ Q 0 n H1) : tRg1 ta σ H Q := q
theorem e_rg2 {Q : Int → Int → Hp → Prop} (q : ta σ H fun x H1 => tb σ H1 fun y H2 => ∃ i j, x = .int i ∧ y = .int j ∧ Q i j H2) : tRg2 ta tb σ H Q := q
theorem e_iEnum {R : It → Hp → Prop} (q : as σ H fun vs H1 => ∃ a xs, vs = [.ref a] ∧ SqL K H1 a xs ∧ R (Ite K a) H1) : iEnum K as σ H R := q
theorem e_iEnumT {R : It → Hp → Prop} (q : as σ H fun vs H1 => ∃ a xs, vs = [.ref a] ∧ SqT K H1 a xs ∧ R (IteT K a) H1) : iEnumT K as σ H R := q
theorem e_iRng3 {R : It → Hp → Prop} (q : as σ H fun vs H1 => ∃ (i j c : Int) (n : Nat), vs = [.int i, .int j, .int c] ∧ RgC i j c n ∧ R (Itc i c n) H1) : iRng3 as σ H R := q
theorem e_slL {Q : VK} {p : Addr} {xs : List V} {lo hi : Option Int} (h : SqL K H p xs) (q : ∀ r, H r = none → Q (.ref r) (upd H r (.lst (cutV xs lo hi)))) : rSlL K (.ref p) lo hi H Q := ⟨p, xs, rfl, h, q⟩
theorem e_app {Q : VK} {l : Addr} {xs : List V} {y : V} (h : H l = some (.lst xs)) (hz : xs.length < sizeLine) (q : Q .non (upd H l (.lst (xs ++ [y])))) : rAppend (.ref l) [y] H Q := ⟨l, xs, y, rfl, rfl, h, hz, q⟩
theorem e_ext {Q : VK} {l b : Addr} {xs zs : List V} (h : H l = some (.lst xs)) (hb : H b = some (.lst zs)) (hz : xs.length + zs.length ≤ sizeLine) (q : Q .non (upd H l (.lst (xs ++ zs)))) : rExtend (.ref l) [.ref b] H Q := ⟨l, b, xs, zs, rfl, rfl, h, hb, hz, q⟩
end
/-! ### rows of ints as data -/
abbrev Di (l : List Int) : List PyData := l.map PyData.int
theorem dpAll_ints {K : PySem.W.Frag} {H : Hp} : ∀ xs : List Int, DpAll K H (xs.map V.int) (Di xs)
  | [] => .nil
  | x :: r => .cons (.int x) (dpAll_ints r)
theorem eqvAll_ints : ∀ xs ys : List Int, PyData.eqvAll (Di xs) (Di ys) = decide (xs = ys)
  | [], [] => by
      simp [PyData.eqvAll]
  | [], _ :: _ => by
      simp [PyData.eqvAll]
  | _ :: _, [] => by
      simp [PyData.eqvAll]
  | x :: xs, y :: ys => by
    have ih := eqvAll_ints xs ys
    show (PyData.eqv (.int x) (.int y) && PyData.eqvAll (Di xs) (Di ys)) = _
    rw [ih]
    show ((x == y) && decide (xs = ys)) = decide (x :: xs = y :: ys)
    by_cases h : x = y
    · subst h; simp
    · simp [h]
theorem canAll_ints : ∀ xs : List Int, PyData.canLayAll0 (Di xs) = true
  | [] => rfl
  | x :: r => by
    show (PyData.canLay0 (.int x) && PyData.canLayAll0 (Di r)) = true
    rw [canAll_ints r]; rfl
theorem depthAll_ints : ∀ xs : List Int, PyData.depthAll (Di xs) = 0
  | [] => rfl
  | x :: r => by
    show max 0 (PyData.depthAll (Di r)) = 0
    rw [depthAll_ints r]; rfl
theorem shaped_list {ds : List PyData} (h1 : PyData.canLayAll0 ds = true) (h2 : PyData.depthAll ds ≤ 60) : SeqAt.shaped (.list ds) = true := by
  unfold SeqAt.shaped
  rw [show PyData.canLay0 (.list ds) = PyData.canLayAll0 ds from rfl, h1, show PyData.depth (.list ds) = PyData.depthAll ds + 1 from rfl]
  simp
  omega
theorem shaped_tuple {ds : List PyData} (h1 : PyData.canLayAll0 ds = true) (h2 : PyData.depthAll ds ≤ 60) : SeqAt.shaped (.tuple ds) = true := by
  unfold SeqAt.shaped
  rw [show PyData.canLay0 (.tuple ds) = PyData.canLayAll0 ds from rfl, h1, show PyData.depth (.tuple ds) = PyData.depthAll ds + 1 from rfl]
  simp
  omega
theorem shaped_li (xs : List Int) : SeqAt.shaped (.list (Di xs)) = true := shaped_list (canAll_ints xs) (by rw [depthAll_ints]; decide)
theorem shaped_ti (xs : List Int) : SeqAt.shaped (.tuple (Di xs)) = true := shaped_tuple (canAll_ints xs) (by rw [depthAll_ints]; decide)
section
variable {K : PySem.W.Frag} {H : Hp} {Q : VK} {a b : Addr} {xs ys : List Int}
theorem e_eqLL (h1 : SqL K H a (xs.map V.int)) (h2 : SqL K H b (ys.map V.int)) (q : Q (.bl (decide (xs = ys))) H) : rEqD K (.ref a) (.ref b) H Q :=
  ⟨_, _, .lst h1 (dpAll_ints xs), .lst h2 (dpAll_ints ys), shaped_li xs, shaped_li ys, by rw [show PyData.eqv (.list (Di xs)) (.list (Di ys)) = PyData.eqvAll (Di xs) (Di ys) from rfl, eqvAll_ints]; exact q⟩
theorem e_neLL (h1 : SqL K H a (xs.map V.int)) (h2 : SqL K H b (ys.map V.int)) (q : Q (.bl (!decide (xs = ys))) H) : rNeD K (.ref a) (.ref b) H Q :=
  ⟨_, _, .lst h1 (dpAll_ints xs), .lst h2 (dpAll_ints ys), shaped_li xs, shaped_li ys, by rw [show PyData.eqv (.list (Di xs)) (.list (Di ys)) = PyData.eqvAll (Di xs) (Di ys) from rfl, eqvAll_ints]; exact q⟩
theorem e_eqTT (h1 : SqT K H a (xs.map V.int)) (h2 : SqT K H b (ys.map V.int)) (q : Q (.bl (decide (xs = ys))) H) : rEqD K (.ref a) (.ref b) H Q :=
  ⟨_, _, .tup h1 (dpAll_ints xs), .tup h2 (dpAll_ints ys), shaped_ti xs, shaped_ti ys, by rw [show PyData.eqv (.tuple (Di xs)) (.tuple (Di ys)) = PyData.eqvAll (Di xs) (Di ys) from rfl, eqvAll_ints]; exact q⟩
theorem e_neTT (h1 : SqT K H a (xs.map V.int)) (h2 : SqT K H b (ys.map V.int)) (q : Q (.bl (!decide (xs = ys))) H) : rNeD K (.ref a) (.ref b) H Q :=
  ⟨_, _, .tup h1 (dpAll_ints xs), .tup h2 (dpAll_ints ys), shaped_ti xs, shaped_ti ys, by rw [show PyData.eqv (.tuple (Di xs)) (.tuple (Di ys)) = PyData.eqvAll (Di xs) (Di ys) from rfl, eqvAll_ints]; exact q⟩
end
/-! ### the order of alike data -/
def rLtD (K : PySem.W.Frag) : R2 := fun x y H Q => ∃ d e, Dp K H x d ∧ Dp K H y e ∧ PySem.W.alike d e = true ∧ d ≠ .none ∧ d.depth ≤ 60 ∧ Q (.bl (PySem.W.dataLt d e)) H
def rGtD (K : PySem.W.Frag) : R2 := fun x y H Q => ∃ d e, Dp K H x d ∧ Dp K H y e ∧ PySem.W.alike d e = true ∧ d ≠ .none ∧ d.depth ≤ 60 ∧ Q (.bl (PySem.W.dataLt e d)) H
theorem op_ltD {X : Cx} (hu : X.A.units + 64 < cLine) : OpR X (compareOp .Lt) (rLtD X.K) := by
  intro pins s σ H x y v u C I rx ry hq
  obtain ⟨d, e, hd, he, sd, se, hp, q⟩ := hq
  obtain ⟨toks1, r1⟩ := Dp.reads I d x v hd rx
  obtain ⟨toks2, r2⟩ := Dp.reads I e y u he ry
  exact PySem.W.lt_data r1 r2 sd se (by have := Nat.min_le_left d.depth e.depth; omega) ⟨.bl _, H, I, rfl, q⟩
theorem op_gtD {X : Cx} (hu : X.A.units + 64 < cLine) : OpR X (compareOp .Gt) (rGtD X.K) := by
  intro pins s σ H x y v u C I rx ry hq
  obtain ⟨d, e, hd, he, sd, se, hp, q⟩ := hq
  obtain ⟨toks1, r1⟩ := Dp.reads I d x v hd rx
  obtain ⟨toks2, r2⟩ := Dp.reads I e y u he ry
  exact PySem.W.gt_data r1 r2 sd se (by have := Nat.min_le_left d.depth e.depth; omega) ⟨.bl _, H, I, rfl, q⟩
theorem alikeAll_ints : ∀ xs ys : List Int, PySem.W.alikeAll (Di xs) (Di ys) = true
  | [], _ => by simp [PySem.W.alikeAll]
  | _ :: _, [] => by simp [PySem.W.alikeAll]
  | x :: xs, y :: ys => by
    show (PySem.W.alike (.int x) (.int y) && PySem.W.alikeAll (Di xs) (Di ys)) = true
    rw [alikeAll_ints xs ys]; rfl
theorem lt_ints : ∀ xs ys : List Int, PyProof.Rows.lexLt PyProof.Rows.itemOrd (PySem.W.keyToksAll (Di xs)) (PySem.W.keyToksAll (Di ys)) = HT.lexLt xs ys
  | [], [] => by decide
  | [], y :: ys => by
    show PyProof.Rows.lexLt PyProof.Rows.itemOrd [.inl 0] (.inl 1 :: _) = true
    rw [PySem.W.lex_atom (by decide)]
    decide
  | x :: xs, [] => by
    show PyProof.Rows.lexLt PyProof.Rows.itemOrd (.inl 1 :: _) [.inl 0] = false
    rw [PySem.W.lex_atom (by decide)]
    decide
  | x :: xs, y :: ys => by
    have ih := lt_ints xs ys
    show _ = if x = y then HT.lexLt xs ys else decide (x < y)
    by_cases h : x = y
    · subst h
      rw [if_pos rfl, ← ih]
      exact PySem.W.dataLt_all_yes (x := .int x) (y := .int x) rfl (by simp [PyData.eqv])
    · rw [if_neg h, ← PySem.W.dataLt_int x y]
      exact PySem.W.dataLt_all_no (x := .int x) (y := .int y) rfl (by simpa [PyData.eqv] using h)
theorem e_ltLL {K : PySem.W.Frag} {H : Hp} {Q : VK} {a b : Addr} {xs ys : List Int} (h1 : SqL K H a (xs.map V.int)) (h2 : SqL K H b (ys.map V.int)) (q : Q (.bl (HT.lexLt xs ys)) H) : rLtD K (.ref a) (.ref b) H Q :=
  ⟨_, _, .lst h1 (dpAll_ints xs), .lst h2 (dpAll_ints ys), alikeAll_ints xs ys, by simp, by show PyData.depthAll (Di xs) + 1 ≤ 60; rw [depthAll_ints]; decide, by
    rw [PySem.W.dataLt_list, lt_ints]; exact q⟩
/-! ### loops over rows of ints -/
theorem at_split {ns : List Int} {i : Nat} {x : V} (hx : (ns.map V.int)[i]? = some x) : ∃ y, x = .int y ∧ ns = ns.take i ++ y :: ns.drop (i + 1) ∧ ns.take (i + 1) = ns.take i ++ [y] := by
  rw [List.getElem?_map] at hx
  cases e : ns[i]? with
  | none => rw [e] at hx; cases hx
  | some y =>
    rw [e] at hx
    have e2 := (List.getElem?_eq_some_iff.mp e).2
    refine ⟨y, (Option.some.inj hx).symm, ?_, by rw [List.take_add_one, e]; rfl⟩
    rw [← e2, List.getElem_cons_drop, List.take_append_drop]
section
variable {K : PySem.W.Frag} {g : TG} {t : TS} {D : Ends} {σ : L2.St} {H : Hp} {tt : TT} {te : TE} {vs : List Nat} {Q : VK} {Da a : Addr} {ns : List Int}
theorem for_ints (Pv : List Int → L2.St → Hp → Prop) (h0 : Pv [] σ H) (hl : ∀ pre σ H, Pv pre σ H → SqL K H a (ns.map V.int))
    (hs : ∀ (pre : List Int) (x : Int) (post : List Int) σ H, ns = pre ++ x :: post → Pv pre σ H → g (.int x) σ H fun σ2 H2 => t { D with nx := Pv (pre ++ [x]), ct := Pv (pre ++ [x]), bk := D.nx } σ2 H2)
    (hd : ∀ σ H, Pv ns σ H → D.nx σ H) : ForB (Itl K a) g t D σ H := by
  refine for_list (xs := ns.map V.int) (fun i => Pv (ns.take i)) (by simpa using h0) (fun i σ H _ p => hl _ σ H p) (fun i x σ H hx p => ?_) (fun σ H p => ?_)
  · obtain ⟨y, rfl, e1, e2⟩ := at_split hx
    rw [e2]
    exact hs _ y _ σ H e1 p
  · rw [List.length_map, List.take_length] at p
    exact hd σ H p
theorem for_intsT (Pv : List Int → L2.St → Hp → Prop) (h0 : Pv [] σ H) (hl : ∀ pre σ H, Pv pre σ H → SqT K H a (ns.map V.int))
    (hs : ∀ (pre : List Int) (x : Int) (post : List Int) σ H, ns = pre ++ x :: post → Pv pre σ H → g (.int x) σ H fun σ2 H2 => t { D with nx := Pv (pre ++ [x]), ct := Pv (pre ++ [x]), bk := D.nx } σ2 H2)
    (hd : ∀ σ H, Pv ns σ H → D.nx σ H) : ForB (Itt K a) g t D σ H := by
  refine for_tup (xs := ns.map V.int) (fun i => Pv (ns.take i)) (by simpa using h0) (fun i σ H _ p => hl _ σ H p) (fun i x σ H hx p => ?_) (fun σ H p => ?_)
  · obtain ⟨y, rfl, e1, e2⟩ := at_split hx
    rw [e2]
    exact hs _ y _ σ H e1 p
  · rw [List.length_map, List.take_length] at p
    exact hd σ H p
theorem walk_enumT {xs : List V} : Walk (IteT K a) xs.length (fun H => SqT K H a xs) (YPair (fun i => some (.int (i : Nat))) (fun i => xs[i]?)) := by
  refine ⟨fun i _ hi q => ⟨xs, xs[i], q, by simp [hi]⟩,
    fun _ q => ⟨xs, q, Nat.le_refl _⟩, fun i H v H' _ q y => ?_⟩
  obtain ⟨T, x, g1, g2, g3, g4⟩ := y
  exact ⟨T, .int (i : Nat), x, g1, g2, g3, rfl, g4 xs q⟩
theorem for_enumI (Pv : List Int → L2.St → Hp → Prop) (h0 : Pv [] σ H) (hl : ∀ pre σ H, Pv pre σ H → SqL K H a (ns.map V.int))
    (hs : ∀ (pre : List Int) (x : Int) (post : List Int) (T : Addr) σ H, ns = pre ++ x :: post → Pv pre σ H → H T = none → g (.ref T) σ (upd H T (.tup [.int (pre.length : Nat), .int x])) fun σ2 H2 => t { D with nx := Pv (pre ++ [x]), ct := Pv (pre ++ [x]), bk := D.nx } σ2 H2)
    (hd : ∀ σ H, Pv ns σ H → D.nx σ H) : ForB (Ite K a) g t D σ H := by
  refine for_it (walk_enum (xs := ns.map V.int)) (fun i => Pv (ns.take i)) (by simpa using h0) (fun i σ H _ p => hl _ σ H p) (fun i x σ H H' hi p y => ?_) (fun σ H p => ?_)
  · obtain ⟨T, u, v, rfl, hT, rfl, hu, hv⟩ := y
    obtain ⟨z, rfl, e1, e2⟩ := at_split hv
    cases (Option.some.inj hu)
    rw [e2]
    have hl : (ns.take i).length = i := by rw [List.length_map] at hi; rw [List.length_take]; omega
    have q := hs (ns.take i) z _ T σ H e1 p hT
    rw [hl] at q
    exact q
  · rw [List.length_map, List.take_length] at p
    exact hd σ H p
theorem for_enumIT (Pv : List Int → L2.St → Hp → Prop) (h0 : Pv [] σ H) (hl : ∀ pre σ H, Pv pre σ H → SqT K H a (ns.map V.int))
    (hs : ∀ (pre : List Int) (x : Int) (post : List Int) (T : Addr) σ H, ns = pre ++ x :: post → Pv pre σ H → H T = none → g (.ref T) σ (upd H T (.tup [.int (pre.length : Nat), .int x])) fun σ2 H2 => t { D with nx := Pv (pre ++ [x]), ct := Pv (pre ++ [x]), bk := D.nx } σ2 H2)
    (hd : ∀ σ H, Pv ns σ H → D.nx σ H) : ForB (IteT K a) g t D σ H := by
  refine for_it (walk_enumT (xs := ns.map V.int)) (fun i => Pv (ns.take i)) (by simpa using h0) (fun i σ H _ p => hl _ σ H p) (fun i x σ H H' hi p y => ?_) (fun σ H p => ?_)
  · obtain ⟨T, u, v, rfl, hT, rfl, hu, hv⟩ := y
    obtain ⟨z, rfl, e1, e2⟩ := at_split hv
    cases (Option.some.inj hu)
    rw [e2]
    have hl : (ns.take i).length = i := by rw [List.length_map] at hi; rw [List.length_take]; omega
    have q := hs (ns.take i) z _ T σ H e1 p hT
    rw [hl] at q
    exact q
  · rw [List.length_map, List.take_length] at p
    exact hd σ H p
/-- [e for k in range(a, b, c)], e a function of the turn -/
theorem lc_map_rngC {lo c : Int} {n : Nat} {H0 : Hp} (hD : H0 Da = none) (hn : n ≤ 1000000) (f : Nat → V)
    (hs : ∀ (i : Nat) (H2 : Hp) (C : VK) (E : Hp → Prop), i < n → Same H0 H2 → (∀ H3, Same H2 H3 → C (f i) H3) →
      g (.int (lo + (i : Nat) * c)) (wipe σ vs) H2 fun σ2 H2 => wipe σ2 vs = wipe σ vs ∧ tYes σ2 H2 fun b H3 => if b = true then te σ2 H3 C else E H3)
    (hd : ∀ (H : Hp), Same H0 H → H Da = some (.lst ((List.range n).map f)) → Q (.ref Da) H) : LcB (Itc lo c n) g tYes te vs σ Da H0 Q := by
  refine lc_it walk_rangeC (fun i H2 => Same H0 H2 ∧ H2 Da = some (.lst ((List.range i).map f))) ⟨same_new hD, upd_same⟩ (fun _ _ _ _ => trivial) (fun i x H2 H' hi p y => ?_) (fun H2 p => hd H2 p.1 p.2)
  obtain ⟨rfl, rfl⟩ := y
  obtain ⟨k4, e4⟩ := p
  refine hs i _ _ _ hi k4 fun H3 k5 => ?_
  refine ⟨_, k5 _ _ e4, Nat.lt_of_le_of_lt (by simp; omega : _ ≤ 1000000) (by decide), Same.mut (k4.trans k5) hD, ?_⟩
  rw [upd_same, List.range_succ, List.map_append]
  rfl
end
theorem i_bneself {b : Bool} {A B : Prop} (h : B) : if (b != b) = true then A else B := by
  have e : (b != b) = false := by cases b <;> rfl
  rw [e]; exact i_F h
theorem i_beself {b : Bool} {A B : Prop} (h : A) : if (b == b) = true then A else B := by
  rw [beq_self_eq_true]; exact i_T h
/-! ### a list or a tuple -/
/-- a row of values, a list's or a tuple's -/
abbrev SqE (K : PySem.W.Frag) (H : Hp) (p : Addr) (xs : List V) : Prop := SqL K H p xs ∨ SqT K H p xs
theorem Same.seqE {K : PySem.W.Frag} {H H' : Hp} {a : Addr} {xs : List V} (e : Same H H') (h : SqE K H a xs) : SqE K H' a xs := by
  rcases h with h | h
  · exact .inl (e.seq h)
  · refine .inr ?_
    rcases h with (h | ⟨c9, h⟩) | h
    · exact .inl (.inl (e _ _ h))
    · exact .inl (.inr ⟨c9, e _ _ h⟩)
    · exact .inr h
theorem e_ixE {K : PySem.W.Frag} {H : Hp} {Q : VK} {p : Addr} {xs : List V} {i : Int} {v : V} (h : SqE K H p xs) (ha : atI xs i = some v) (q : Q v H) : rIxL K (.ref p) (.int i) H Q ∨ rIxT K (.ref p) (.int i) H Q := by
  rcases h with h | h
  · exact .inl (e_ixL h ha q)
  · exact .inr (e_ixT h ha q)
/-- a list of the turn's values, over a list -/
theorem lc_map_lstI {K : PySem.W.Frag} {g : TG} {te : TE} {vs : List Nat} {σ : L2.St} {Da a : Addr} {H0 : Hp} {Q : VK} {xs : List V} (hS : SqL K H0 a xs) (hD : H0 Da = none) (hn : xs.length ≤ 1000000) (f : Nat → V)
    (hs : ∀ (i : Nat) (x : V) (H2 : Hp) (C : VK) (E : Hp → Prop), xs[i]? = some x → Same H0 H2 → (∀ H3, Same H2 H3 → C (f i) H3) →
      g x (wipe σ vs) H2 fun σ2 H2 => wipe σ2 vs = wipe σ vs ∧ tYes σ2 H2 fun b H3 => if b = true then te σ2 H3 C else E H3)
    (hd : ∀ (H : Hp), Same H0 H → H Da = some (.lst ((List.range xs.length).map f)) → Q (.ref Da) H) : LcB (Itl K a) g tYes te vs σ Da H0 Q := by
  refine lc_list (xs := xs) (fun i H2 => Same H0 H2 ∧ H2 Da = some (.lst ((List.range i).map f))) ⟨same_new hD, upd_same⟩ (fun i H2 _ p => p.1.seq hS) (fun i x H2 hx p => ?_) (fun H2 p => hd H2 p.1 p.2)
  obtain ⟨k4, e4⟩ := p
  have hi := (List.getElem?_eq_some_iff.mp hx).1
  refine hs i x H2 _ _ hx k4 fun H3 k5 => ?_
  refine ⟨_, k5 _ _ e4, Nat.lt_of_le_of_lt (by rw [List.length_map, List.length_range]; omega : _ ≤ 1000000) (by decide), Same.mut (k4.trans k5) hD, ?_⟩
  rw [upd_same, List.range_succ, List.map_append]
  rfl
end Vf

namespace Vf
open PySem L2 PySem.Spec PyProof.Rows
/-- a plain tuple of pairs: made by tuple(list), or by an update -/
def PlT (H : Hp) (a : Addr) (xs : List V) : Prop := ∃ o : Obj, o.dict = none ∧ H a = some (.frz o (.tup xs))
theorem PlT.seq {K : PySem.W.Frag} {H : Hp} {a : Addr} {xs : List V} (h : PlT H a xs) : SqT K H a xs := by
  obtain ⟨o, _, e⟩ := h
  exact .inl (.inr ⟨o, e⟩)
theorem PlT.same {H H' : Hp} {a : Addr} {xs : List V} (h : PlT H a xs) (e : Same H H') : PlT H' a xs := by
  obtain ⟨o, d, q⟩ := h
  exact ⟨o, d, e _ _ q⟩
theorem uvs_of {X : Cx} {pins : List (Addr × Obj)} {σ : L2.St} {H : Hp} {s : Shared} (I : Inv X pins σ H s) : ∀ {ps : List Addr} {kvs : List (Key × V)}, Paired (fun p kv => SqT X.K H p [kV kv.1, kv.2]) ps kvs →
    ∃ (prs : List (Key × Value)) (uvs : List (Value × Value)), KV kvs prs ∧ prs.length = ps.length ∧ uvs.length = ps.length ∧
      ∀ (j : Nat) (u y : Value), uvs[j]? = some (u, y) → ∃ (b : Addr) (k : Key), ps[j]? = some b ∧ PairAt s.heap b u y ∧ prs[j]? = some (k, y) ∧ keyIs k u = true
  | _, _, .nil => ⟨[], [], .nil, rfl, rfl, fun j u y e => by simp at e⟩
  | _, _, .cons (a := p) (b := kv) h t => by
    obtain ⟨prs, uvs, r, l1, l2, q⟩ := uvs_of I t
    obtain ⟨its, rv, ht, _⟩ := I.tuple h
    obtain ⟨u, y, rfl, ru, ry⟩ := vals2 rv
    refine ⟨(kv.1, y) :: prs, (u, y) :: uvs, .cons ⟨rfl, ry⟩ r, by simp [l1], by simp [l2], fun j u' y' e => ?_⟩
    cases j with
    | zero =>
      cases (Option.some.inj e)
      exact ⟨p, kv.1, rfl, .inl ht, rfl, kV_is (P := X.prog) (w := X.w) ru⟩
    | succ j =>
      obtain ⟨b, k, e1, e2, e3, e4⟩ := q j u' y' (by simpa using e)
      exact ⟨b, k, by simpa using e1, e2, by simpa using e3, e4⟩
theorem refs_of : ∀ {ps : List Addr} {us : List Value}, Vals (ps.map V.ref) us → us = ps.map Value.ref
  | [], _, .nil => rfl
  | p :: ps, _, .cons h t => by
    cases h
    rw [refs_of t]
    rfl
/-- dict(t), t a plain tuple of pairs -/
theorem call_dictPT {X : Cx} (hcalm : X.calm = true) : CallR X (.type "dict") (fun xs H Q => ∃ (a : Addr) (ps : List Addr) (kvs : List (Key × V)), xs = [.ref a] ∧ PlT H a (ps.map V.ref) ∧ Paired (fun p kv => SqT X.K H p [kV kv.1, kv.2]) ps kvs ∧
    ∀ p, H p = none → Q (.ref p) (upd H p (.dK (mergeK [] kvs)))) := by
  intro pins s σ H xs us Q I r q
  obtain ⟨a, ps, kvs, rfl, ⟨o, hd, ea⟩, hp, q⟩ := q
  obtain ⟨u, rfl, rx⟩ := vals1 r
  cases rx
  obtain ⟨ho, hz, its, rv, o2, ho2, hc, n, hdat⟩ := (show ObjOk X.prog X.w H s.heap a (.frz o (.tup (ps.map V.ref))) from I.hok a _ ea)
  rw [ho] at ho2
  cases (Option.some.inj ho2)
  have ei := refs_of rv
  subst ei
  rw [List.length_map] at hz
  obtain ⟨prs, uvs, rel, l1, l2, hq⟩ := uvs_of I hp
  have ok : PlainSeq "tuple" s.heap a (ps.map Value.ref).toArray ∧ PairItems s.heap (ps.map Value.ref).toArray (fun j => ps.getD j 0) uvs := by
    refine ⟨⟨o, n, ho, hc, hd, hdat⟩, by simp [l2], fun j k v hj => ?_⟩
    obtain ⟨b, key, e1, e2, _, _⟩ := hq j k v hj
    have e5 : ps.getD j 0 = b := by rw [List.getD_eq_getElem?_getD, e1]; rfl
    show _ ∧ PairAt s.heap (ps.getD j 0) k v
    rw [e5]
    exact ⟨by simp [e1], e2⟩
  refine PySem.call_dict_pairs (knd := mixKind X.prog X.w) (kvs := prs) (PairArg.tuple a (ps.map Value.ref).toArray (fun j => ps.getD j 0) uvs) (I.ok.hd hcalm) ok ⟨by rw [l1, l2], fun i key v hr => ?_⟩ (by rw [l2]; exact hz) fun h' tk hd' k => ?_
  · obtain ⟨b, k, _, _, e3, e4⟩ := hq i key v hr
    exact ⟨k, e3, e4⟩
  · have hm : (s.heap.objs.size == sysModules) = false := beq_eq_false_iff_ne.mpr (Nat.ne_of_gt I.big)
    have hlen : (mergeK [] kvs).length ≤ sizeLine := by
      have h1 := length_mergeK kvs []
      have h2 := rel.length
      rw [List.length_nil] at h1
      omega
    exact ⟨.ref s.heap.objs.size, upd H s.heap.objs.size (.dK (mergeK [] kvs)), I.laid (t' := tk) (fun b ob e => k b ob (by simp) e) (Nat.le_refl _) (show ObjOk X.prog X.w _ _ _ (.dK (mergeK [] kvs)) from ⟨hlen, hm, merged [] prs, KV.merge rel .nil, hd'⟩), rfl, q _ (I.hok.fresh (Nat.le_refl _))⟩
/-- tuple(l), l a list: a plain tuple -/
theorem call_tupleF {X : Cx} : CallR X (.type "tuple") (fun xs H Q => ∃ p ys, xs = [.ref p] ∧ SqL X.K H p ys ∧ ∀ l H', H l = none → Same H H' → PlT H' l ys → (∀ b, b ≠ l → H' b = H b) → Q (.ref l) H') := by
  intro pins s σ H xs us Q I r q
  obtain ⟨p, ys, rfl, hq, q⟩ := q
  obtain ⟨u, rfl, rx⟩ := vals1 r
  cases rx
  obtain ⟨its, rv, pl, hz⟩ := I.list hq
  have hlen := rv.length
  refine call_tuple_list pl.isList (fun h' kp => ?_) (by simp only [List.size_toArray] <;> omega)
  have J1 : Inv X pins σ H { s with heap := h' } := I.kept (t' := s.toks) kp
  have hfr := J1.hok.fresh (Nat.le_refl _)
  have J2 : Inv X pins σ (upd H h'.objs.size (.frz { cls := .type "tuple", data := .seq its.toArray } (.tup ys))) { s with heap := h'.push { cls := .type "tuple", data := .seq its.toArray } } :=
    J1.laid (t' := s.toks) (fun b ob e => Heap.get?_push_of_some _ e) (Nat.le_refl _) ⟨Heap.get?_push_size _ rfl, hz, its, rv, IsTup.new _ _⟩
  exact ⟨.ref h'.objs.size, _, J2, rfl, q _ _ hfr (same_new hfr) ⟨_, rfl, upd_same⟩ fun b hb => upd_ne hb⟩
theorem tupFK (K : PySem.W.Frag) {X : Cx} (hK : X.K = K := by rfl) : CallR X (.type "tuple") (fun xs H Q => ∃ p ys, xs = [.ref p] ∧ SqL K H p ys ∧ ∀ l H', H l = none → Same H H' → PlT H' l ys → (∀ b, b ≠ l → H' b = H b) → Q (.ref l) H') := hK ▸ call_tupleF
end Vf

namespace PySem
namespace ErrX
open PySem.W PySem.Calls PyProof.Rows PySem.HandSPX
/-! ### the text of __init__ -/
def iA (p1 p2 : Pos) : Arguments := { posonlyargs := [], args := [{ arg := "self", annotation := none, pos := p1 }, { arg := "place", annotation := none, pos := p2 }], vararg := none, kwonlyargs := [], kw_defaults := [], kwarg := none, defaults := [] }
def iB (q1 q2 q3 q4 : Pos) : List Stmt := [.Assign [.Attribute (.Name "self" q1) "place" q2] (.Name "place" q3) q4]
def iS : Scope := { kind := .function, names := [(PySem.Str.ofString "self", .local), (PySem.Str.ofString "place", .local)], isGenerator := false, isCoroutine := false, more := [] }
/-- what the written part says of Low, at C, and of its __init__, at fI -/
structure ErrTxt (K : Frag) (mg : Str → Option Value) (x : Str) (C fI : Addr) : Prop where
  gC : mg x = some (.ref C)
  cls : ∃ nm q N bs bm sn sub ab col dd k0 k1 k2 k3 k5, K.lookup C = some (excClassObj nm q C N bs bm true sn sub ab col dd k0 k1 k2 k3 k5 "ValueError.__new__") ∧ refsVE bm = true
  sa : findIn K (.ref C) "__setattr__" = some (some (.builtin "object.__setattr__"))
  ga : findIn K (.ref C) "__getattribute__" = some (some (.builtin "BaseException.__getattribute__"))
  gg : findIn K (.ref C) "__getattr__" = some none
  noN : findIn K (.ref C) "place" = some none
  iC : findIn K (.ref C) "__init__" = some (some (.ref fI))
  tC : typeIn K (.ref fI) = some (.type "function")
  kC : keepIn K (.ref C) = true
  exC : subIn K (.ref C) (.type "BaseException") = some true
  tyC : typeIn K (.ref C) = some (.type "type")
  hdC : hasDictIn K C = true
  te : exmOne K (.ref C) (.ref C) = some true
  fn : ∃ (oc : Value) (od : Option Addr) (kV doc pm : Value) (an : Option Addr) (cdv ct : Value) (osl : Array (Option Value)) (p1 p2 q1 q2 q3 q4 : Pos),
    K.lookup fI = some ⟨oc, od, .func (fnOf "__init__" "FolderkinError.__init__" (iA p1 p2) (iB q1 q2 q3 q4) iS .none kV doc pm an cdv ct), osl⟩ ∧ codeIn K cdv "FolderkinError.__init__" = true
theorem one_size (v : Value) : [v].length ≤ sizeLine := by
  rw [sizeLine_eq]
  exact (by decide : 1 ≤ 16777216)
theorem kept_but {K : Frag} {h h' : Heap} {x : Addr} (X : K.In h) (hx : K.lookup x = none) (k : ∀ b o, b ≠ x → h.get? b = some o → h'.get? b = some o) : K.In h' := fun a o e =>
  k a o (fun z => by rw [z, hx] at e; cases e) (X a o e)
theorem ldC {M : Model} {s : Shared} {name : Str} {scope : Scope} {L a : Addr} {cd : Value} {m : Str → Option Value} {x : Str} {pos : Pos} {v : Value} {Q : Value → Shared → Prop} {A : Around} {E : Value → Shared → Prop} (hn : s.heap.Ns L m) (hv : m x = some v) (h : Q v s)
    (hk : scope.kind = .function := by rfl) (hl : (envOfC name scope L a cd).kindOf x = some .local := by rfl) (hd : (x == ("__debug__" : Str)) = false := by decide) :
    wpAny M A (eval (.Name x pos) (envOfC name scope L a cd)) Q E s := wpAny_Name (wpAny_loadName_local hk hl hn hv h) hd
/-- what __init__ leaves of a fresh exception at x -/
structure InitEnd (h h' : Heap) (x C dx t1 : Addr) (v : Value) : Prop where
  keep : ∀ b o, b ≠ x → h.get? b = some o → h'.get? b = some o
  obj : h'.get? x = some { cls := .ref C, dict := some dx, data := .fields #[.ref t1, .none, .none, .none, .bool false, .none] }
  dbig : h.objs.size ≤ dx
  dne : dx ≠ x
  ns : h'.Ns1 dx (fun y => if y = "place" then some v else none)
/-- a made Low -/
structure OwnMade (h h' : Heap) (e C d : Addr) (v : Value) : Prop where
  keep : ∀ b o, h.get? b = some o → h'.get? b = some o
  new : h.objs.size ≤ e
  obj : ∃ oe vs, h'.get? e = some oe ∧ oe.cls = .ref C ∧ oe.dict = some d ∧ oe.data = .fields vs ∧ vs[1]? = some .none
  dbig : h.objs.size ≤ d
  dne : d ≠ e
  ns : h'.Ns1 d (fun y => if y = "place" then some v else none)
section
variable {prog : Program} {w : World} {A : Around} {E : Value → Shared → Prop} {R : Result → Shared → Prop} {s : Shared} {K : Frag} {mg : Str → Option Value} {C fI : Addr}
theorem err_init (T : ErrTxt K mg nmx C fI) {x t0 : Addr} {v : Value} (X : K.In s.heap) (hlim : s.heap.NoLimit) (hx : s.heap.get? x = some (excO C t0)) (hnx : K.lookup x = none) (hroom : A.depth < recursionLimit)
    (hq : ∀ h' tk dx, InitEnd s.heap h' x C dx t0 v → R (.ok (.ret .none)) { s with heap := h', toks := tk }) :
    codeAny (model prog w) A (.call (.ref fI) ⟨[.ref x, v], []⟩) R s := by
  obtain ⟨oc, od, kV, doc, pm, an, cdv, ct, osl, p1, p2, q1, q2, q3, q4, ho, hcd⟩ := T.fn
  obtain ⟨nm, q, N, bs, bm, sn, sub, ab, col, dd, k0, k1, k2, k3, k5, hC, hbm⟩ := T.cls
  have hcl : clsIn K C = some { name := nm, bases := bs, mro := .ref C :: bm, ns := N, qualname := q, hasDict := true, slotNames := sn, subclasses := sub, abstract := ab, collection := col, hasDel := false } := by unfold clsIn; rw [hC] <;> rfl
  refine Att.call_fn (binds := [("self", .ref x), ("place", v)]) X hlim ho hcd hroom (BindsTo.of_eq (by first | rfl | with_unfolding_all rfl)) (by first | rfl | decide | with_unfolding_all rfl) (fun s₁ IC => ?_) rfl rfl rfl
  obtain ⟨h₁, tk₁, rfl⟩ := IC.toInCall.same
  have k : ∀ b o, s.heap.get? b = some o → h₁.get? b = some o := IC.toInCall.keep
  have hn := IC.toInCall.ns
  have hxL : s.heap.objs.size ≠ x := Nat.ne_of_gt (Heap.lt_size hx)
  have X₁ : K.In h₁ := X.keeps k
  have hx₁ := k _ _ hx
  -- self.by = by
  show wpAny _ _ (execs _ _) _ _ _
  refine wpAny_execs_cons (plainObj_wpAny_Assign_Attribute ?_)
  refine ldC (v := v) hn (by first | rfl | with_unfolding_all rfl | kernel_rfl) (ldC (v := .ref x) hn (by first | rfl | with_unfolding_all rfl | kernel_rfl) ?_)
  refine set_plain X₁ (ox := excO C t0) (od := none) ⟨hx₁, rfl, rfl, trivial⟩ T.sa ?_
  refine exc_osa X₁ hx₁ hcl (show refsVE (.ref C :: bm) = true from hbm) rfl T.noN (fun h₃ tk₃ dx k₃ dn dne hx₃ hn₃ => ?_)
  show wpAny _ _ (execs _ _) _ _ _
  have z : s.heap.objs.size < h₁.objs.size := hn.lt
  exact wpAny_execs_nil (hq h₃ tk₃ dx ⟨fun b o hb e => k₃ b o hb (k b o e), hx₃, Nat.le_of_lt (Nat.lt_of_lt_of_le z dn), dne, hn₃⟩)
theorem err_made (T : ErrTxt K mg nmx C fI) {v : Value} (X : K.In s.heap) (hlim : s.heap.NoLimit) (hroom : A.depth + 1 < recursionLimit)
    (hq : ∀ h' tk e d, OwnMade s.heap h' e C d v → R (.ok (.ret (.ref e))) { s with heap := h', toks := tk }) :
    codeAny (model prog w) A (.call (.ref C) ⟨[v], []⟩) R s := by
  obtain ⟨nm, q, N, bs, bm, sn, sub, ab, col, dd, k0, k1, k2, k3, k5, hC, hbm⟩ := T.cls
  obtain ⟨hp, g, dr, tk, os⟩ := s
  have k : ∀ b o, hp.get? b = some o → ((hp.push (kdv_tup [v])).push (excO C hp.objs.size)).get? b = some o := fun b o e => Heap.get?_push_of_some _ (Heap.get?_push_of_some _ e)
  have hget : ((hp.push (kdv_tup [v])).push (excO C hp.objs.size)).get? (hp.objs.size + 1) = some (excO C hp.objs.size) := by heap_get
  have hnx : K.lookup (hp.objs.size + 1) = none := by
    cases e : K.lookup (hp.objs.size + 1) with
    | none => rfl
    | some o =>
      have z : hp.get? (hp.objs.size + 1) = some o := X _ _ e
      exact absurd (Nat.lt_of_succ_lt (Heap.lt_size z)) (Nat.lt_irrefl _)
  refine call_own F.excBase_ValueError (fun X => refsVE_contains X bm hbm) (X _ _ hC) (looks_findIn X T.iC) (fun self => bind_fn X self T.tC) (one_size v) ?_
  refine err_init (s := ⟨(hp.push (kdv_tup [v])).push (excO C hp.objs.size), g, dr, tk, os⟩) T (X.keeps k) (hlim.keeps k) hget hnx ?_ fun h' tk' dx ⟨k', hx, dn, dne, hns⟩ => ?_
  · show A.depth + 1 < recursionLimit
    exact hroom
  · have old : ∀ b o, hp.get? b = some o → h'.get? b = some o := fun b o e => k' b o (Nat.ne_of_lt (Nat.lt_succ_of_lt (Heap.lt_size e))) (k b o e)
    have z : hp.objs.size + 1 + 1 ≤ dx := by
      first
        | (simpa only [Heap.size_push] using dn)
        | exact dn
        | (have q := dn; rw [Heap.size_push, Heap.size_push] at q; exact q)
    exact ⟨rfl, hq h' tk' (hp.objs.size + 1) dx ⟨old, Nat.le_succ _, ⟨_, _, hx, rfl, rfl, rfl, rfl⟩, Nat.le_trans (Nat.le_trans (Nat.le_succ _) (Nat.le_succ _)) z, dne, hns⟩⟩
end
end ErrX
end PySem
namespace L2
open PySem PySem.Spec PyProof.Rows
theorem relO_plc {v : V} {v' : Value} (r : RelV v v') (f : Str) : RelO (List.lookup f [(("place" : Str), v)]) (if f = "place" then some v' else none) := by
  by_cases hw : f = "place"
  · subst hw
    rw [if_pos rfl]
    have q : List.lookup ("place" : Str) [(("place" : Str), v)] = some v := by simp [List.lookup]
    rw [q]
    exact r
  · rw [if_neg hw]
    have qw : (f == ("place" : Str)) = false := by simpa using hw
    have q2 : List.lookup f [(("place" : Str), v)] = none := by simp [List.lookup, qw]
    rw [q2]
    trivial
section
variable {X : Cx} {C fI : Addr}
/-- Low(e) -/
def tMkErr (C : Addr) (ta : TA) : St → Hp → XK → Prop := fun σ H Q => ta σ H fun vs H1 => ∃ v, vs = [v] ∧ ∀ d, H1 d = none → Q (.ref C) (some d) (upd H1 d (.xd [(("place" : Str), v)]))
theorem pmk_err {a : Expr} {ta : TA} {p pos : Pos} {k : Nat} (T : PySem.ErrX.ErrTxt X.K X.mg nmx C fI) (hr : Room k X.A) (ha : PA X [a] ta) (hg : Gl X nmx := by rfl)
    (he : starEach (a :: []) X.env = (false, eval a X.env) :: starEach [] X.env := by rfl) (hpl : (backTo pos (starEach [] X.env)).any (·.1) = false := by rfl) (hdb : (nmx == ("__debug__" : Str)) = false := by decide) :
    PMk X (.Call (.Name nmx p) [a] [] pos) (tMkErr C ta) := by
  intro pins s σ H Q I h
  refine wpAny_Call_Name_kw (ld_glob I hg T.gC ?_ hdb)
  refine PySem.W.callWith_K (h₀ := X.base) I.ok.mod.kin T.kC (thn (ha.run pos pins s σ H _ I h) fun us s1 hh => ?_) he hpl
  obtain ⟨vs, H1, I1, r1, v, ev, q1⟩ := hh
  subst ev
  refine ⟨I1.kIn, ?_⟩
  cases r1 with
  | cons rv rn =>
    rename_i v' us'
    cases rn
    show wpAny _ _ (call (.ref C) [v']) _ _ _
    have hlim := I1.nolimit
    obtain ⟨hp, g, dr, tk, os⟩ := s1
    refine wpAny_call (PySem.ErrX.err_made T I1.kIn hlim (by have := hr.dp; omega) fun h' tk' e d M => ?_)
    show MkP X pins σ Q (.ref e) ⟨h', g, dr, tk', os⟩
    obtain ⟨oe, fv, hoe, hc, hd, hdat, h1⟩ := M.obj
    have hns := M.ns
    obtain ⟨G', g1, g2⟩ := restrict h' fun b => decide (b ≠ e)
    have gk : ∀ b, b ≠ e → G'.get? b = h'.get? b := fun b hb => g1 b (decide_eq_true hb)
    have ge : G'.get? e = none := g2 e (by simp)
    have old : ∀ b o, hp.get? b = some o → G'.get? b = some o := fun b o q => (gk b (Nat.ne_of_lt (Nat.lt_of_lt_of_le (Heap.lt_size q) M.new))).trans (M.keep b o q)
    have ob : ObjOk X.prog X.w (upd H1 d (.xd [(("place" : Str), v)])) G' d (.xd [(("place" : Str), v)]) :=
      ⟨_, hns.at (fun o q => (gk d M.dne).trans q), fun f => relO_plc rv f⟩
    have J : Inv X pins σ (upd H1 d (.xd [(("place" : Str), v)])) ⟨G', g, dr, tk', os⟩ := I1.laid (t' := tk') old M.dbig ob
    refine ⟨e, oe, fv, ⟨G', g, dr, tk', os⟩, _, .ref C, some d, rfl, J, fun b o q => ?_, ge, hoe, ⟨hc, hd⟩, hdat, h1, ?_, rfl, I1.bare, raises_own T.exC T.tyC, q1 d (I1.hok.fresh M.dbig)⟩
    · by_cases hb : b = e
      · have q' : G'.get? b = some o := q
        rw [hb, ge] at q'; cases q'
      · exact (gk b hb).symm.trans q
    · rw [upd_ne (Ne.symm M.dne)]
      exact I1.hok.fresh M.new
/-- raise Low(e) -/
def tRaiseErr (C : Addr) (W : WX) (ta : TA) : TS := fun _ σ H => tMkErr C ta σ H fun cls d H' => W cls d σ H'
theorem ps_raiseErr {a : Expr} {ta : TA} {W : WX} {p pos pos2 : Pos} {k : Nat} (hc : X.calm = true) (T : PySem.ErrX.ErrTxt X.K X.mg nmx C fI) (hr : Room k X.A) (tk : Takes X W) (ha : PA X [a] ta) (hg : Gl X nmx := by rfl)
    (he : starEach (a :: []) X.env = (false, eval a X.env) :: starEach [] X.env := by rfl) (hpl : (backTo pos (starEach [] X.env)).any (·.1) = false := by rfl) (hdb : (nmx == ("__debug__" : Str)) = false := by decide) :
    PS X (.Raise (some (.Call (.Name nmx p) [a] [] pos)) none pos2) (tRaiseErr C W ta) := ps_raise hc tk (pmk_err T hr ha hg he hpl hdb)
/-- low.by, low the exception that the suite holds (at a; its class cls, its dict d) -/
def tPlcErr (C : Addr) (a : Addr) (cls : Value) (d : Option Addr) (te : TE) : TE := fun σ H Q => te σ H fun x H1 => x = .ref a ∧ cls = .ref C ∧ ∃ (dd : Addr) (v : V), d = some dd ∧ H1 dd = some (.xd [(("place" : Str), v)]) ∧ Q v H1
theorem pe_plcErr {a : Addr} {oe : Obj} {cls : Value} {d : Option Addr} {pn : List (Addr × Obj)} {e : Expr} {te : TE} {pos : Pos} (T : PySem.ErrX.ErrTxt X.K X.mg nmx C fI) (hz : Zc cls d oe) (hf : ∃ vs, oe.data = .fields vs) (he : PE (X.suite a ((a, oe) :: pn)) e te)
    (hb : attributeBase e "place" X.env (eval e X.env) = eval e X.env := by rfl) :
    PE (X.suite a ((a, oe) :: pn)) (.Attribute e "place" pos) (tPlcErr C a cls d te) := by
  refine ⟨fun pins s σ H Q I h => ?_⟩
  refine attr_of hb (thn (he.run pins s σ H _ I h) fun u s1 hh => ?_)
  obtain ⟨x, H1, I1, rx, ex, ec, dd, v, ed, ea, q⟩ := hh
  subst ex
  obtain rfl : u = Value.ref a := rx
  subst ec
  subst ed
  obtain ⟨ha, _⟩ := I1.pin (a, oe) (List.mem_append_left _ List.mem_cons_self)
  obtain ⟨vs, hd⟩ := hf
  have hx : ObjOk X.prog X.w H1 s1.heap dd (.xd [(("place" : Str), v)]) := I1.hok dd _ ea
  obtain ⟨mA, hns, hr⟩ := hx
  obtain ⟨od, ho, hl⟩ := lookIn_ns hns
  have l : List.lookup ("place" : Str) [(("place" : Str), v)] = some v := by simp [List.lookup]
  obtain ⟨u, hu, ru⟩ := RelO.some_of (v := v) (o := mA "place") (by rw [← l]; exact hr "place")
  have J : PySem.W.InstAt s1.heap a oe C (some od) := ⟨ha, hz.1, by unfold PySem.W.notCls; rw [hd] <;> rfl, by rw [hz.2]; exact ho⟩
  exact HandSPX.exc_get I1.kIn J T.ga T.gg T.exC (PySem.W.findObj_own T.hdC T.noN rfl (by rw [hl, hu])) (handed_of ru) ⟨v, H1, I1.tok _, ru, q⟩
end
end L2

namespace Vf
open PySem L2 PySem.Spec PyProof.Rows
/-- isinstance(e, c), e the error that the suite holds (at a; its class cls, its own dict d) -/
def rIsP (K : PySem.W.Frag) (D a : Addr) (cls : Value) (d : Option Addr) : List V → Hp → VK → Prop := fun xs H Q => cls = .ref D ∧ ∃ (dd : Addr) (pl c : V) (cv : Value) (b : Bool),
  d = some dd ∧ H dd = some (.xd [(("place" : Str), pl)]) ∧ xs = [.ref a, c] ∧ (∀ u, RelV c u → u = cv) ∧ PySem.W.kitOne K (.ref D) cv = some b ∧ Q (.bl b) H
theorem call_isP {X : Cx} {a D : Addr} {oe : Obj} {cls : Value} {d : Option Addr} {pn : List (Addr × Obj)} (C : ExcC X.K D) (hz : Zc cls d oe) (hf : ∃ vs, oe.data = .fields vs) : CallR (X.suite a ((a, oe) :: pn)) (.builtin "isinstance") (rIsP X.K D a cls d) := by
  intro pins s σ H xs us Q I r h
  obtain ⟨rfl, dd, pl, c, cv, b, rfl, ea, rfl, hcv, e, q⟩ := h
  obtain ⟨u1, u2, rfl, r1, r2⟩ := vals2 r
  cases (show u1 = Value.ref a from r1)
  have e2 := hcv _ r2
  subst e2
  obtain ⟨ha, _⟩ := I.pin (a, oe) (List.mem_append_left _ List.mem_cons_self)
  obtain ⟨vs, hd⟩ := hf
  obtain ⟨mA, hns, _⟩ := (show ObjOk X.prog X.w H s.heap dd (.xd [(("place" : Str), pl)]) from I.hok dd _ ea)
  obtain ⟨od, ho, _⟩ := lookIn_ns hns
  have J : PySem.W.InstAt s.heap a oe D (some od) := ⟨ha, hz.1, by unfold PySem.W.notCls; rw [hd] <;> rfl, by rw [hz.2]; exact ho⟩
  have hcl : (PySem.W.clsIn X.K D).isSome = true := by
    have h1 := C.hd
    unfold PySem.W.hasDictIn at h1
    cases h2 : PySem.W.clsIn X.K D with
    | none => rw [h2] at h1; cases h1
    | some cd => rfl
  exact PySem.W.kia_one (PySem.W.kitx_exc hcl C.hg C.hk C.hs C.ha C.hn C.ht C.hm) I.kIn J e (fun z => nomatch z) fun tk => ⟨.bl b, H, I.kept (t' := tk) fun _ _ z => z, rfl, q⟩
end Vf

namespace Vf
open PySem L2 PySem.Spec PyProof.Rows He
/-! ### the head's facts, and further ones that are yes or no -/
abbrev AlX : Type := AlD × Bool
def obsX (fa : List Fa) (fn : List DefD) (ex : List (PySem.W.Frag → Bool)) (K : PySem.W.Frag) : AlX := (obsD fa fn K, ex.all fun p => p K)
def obsXG (n : Nat) (fa : List Fa) (fn : List DefD) (ex : List (PySem.W.Frag → Bool)) (g : Addr → Option Obj) : AlX := obsX fa fn ex (frG g (asD g n))
def SaysX (fa : List Fa) (fn : List DefD) (ex : List (PySem.W.Frag → Bool)) (K : PySem.W.Frag) : Prop := SaysD fa fn K ∧ (ex.all fun p => p K) = true
def hookX (n : Nat) (fa : List Fa) (fn : List DefD) (ex : List (PySem.W.Frag → Bool)) : PySem.W.Hook where
  α := AlX
  obs := fun s => obsXG n fa fn ex s.heap.get?
  val := fun _ => (valD fn, true)
  says := fun _ h => ∃ K : PySem.W.Frag, K.In h ∧ SaysX fa fn ex K
  of := fun _ _ e => ⟨_, frG_in, congrArg (fun z : AlX => z.1) e, congrArg (fun z : AlX => z.2) e⟩
  keeps := fun _ _ _ ⟨K, hK, c⟩ k => ⟨K, PySem.W.Frag.In.keeps hK k, c⟩
theorem obsXG_eq {n : Nat} {fa : List Fa} {fn : List DefD} {ex : List (PySem.W.Frag → Bool)} {g : Addr → Option Obj} {s : Shared} (h : ∀ a, g a = s.heap.get? a) : obsXG n fa fn ex g = (hookX n fa fn ex).obs s := by
  have e : g = s.heap.get? := funext h
  rw [e] <;> rfl
theorem SaysX.more {fa : List Fa} {fn : List DefD} {ex : List (PySem.W.Frag → Bool)} {K : PySem.W.Frag} (c : SaysX fa fn ex K) (i : Nat) {p : PySem.W.Frag → Bool} (h : ex[i]? = some p := by rfl) : p K = true :=
  List.all_eq_true.mp c.2 p (List.mem_of_getElem? h)
/-! ### an own error, over ValueError through own classes, with __init__ from one of them -/
def errB (K : PySem.W.Frag) (C : Addr) : Bool := match K.lookup C with
  | some ⟨.type "type", _, .cls cd, sl⟩ => (match cd.mro, sl.toList with
    | .ref D :: bm, [_, _, _, _, some (.builtin n), _] => D == C && (n == "ValueError.__new__" && (!cd.hasDel && (cd.hasDict && PySem.HandSPX.refsVE bm)))
    | _, _ => false)
  | _ => false
theorem errB_ok {K : PySem.W.Frag} {C : Addr} (q : errB K C = true) : ∃ nm qn N bs bm sn sub ab col dd k0 k1 k2 k3 k5, K.lookup C = some (excClassObj nm qn C N bs bm true sn sub ab col dd k0 k1 k2 k3 k5 "ValueError.__new__") ∧ PySem.HandSPX.refsVE bm = true := by
  unfold errB at q
  split at q
  · rename_i dd cd sl ho
    split at q
    · rename_i D bm k0 k1 k2 k3 n k5 hm hs
      simp only [Bool.and_eq_true, beq_iff_eq, Bool.not_eq_true'] at q
      obtain ⟨rfl, rfl, hdel, hdi, hv⟩ := q
      obtain ⟨nm, bs, mro, ns, qn, hd, sn, sub, ab, col, del⟩ := cd
      dsimp only at hm hdel hdi
      subst hm hdel hdi
      obtain ⟨l⟩ := sl
      simp only at hs
      subst hs
      exact ⟨nm, qn, ns, bs, bm, sn, sub, ab, col, dd, k0, k1, k2, k3, k5, ho, hv⟩
    · cases q
  · cases q
def errAll (x bx : Str) (K : PySem.W.Frag) : Bool :=
  errB K (ga K x) && (eqO (PySem.W.findIn K (.ref (ga K x)) "__setattr__") (some (some (.builtin "object.__setattr__"))) && (eqO (PySem.W.findIn K (.ref (ga K x)) "__getattribute__") (some (some (.builtin "BaseException.__getattribute__"))) &&
  (eqO (PySem.W.findIn K (.ref (ga K x)) "__getattr__") (some none) && (eqO (PySem.W.findIn K (.ref (ga K x)) "place") (some none) && (eqO (PySem.W.findIn K (.ref (ga K x)) "__init__") (some (some (.ref (ma K (ga K bx) "__init__")))) &&
  (decide (PySem.W.typeIn K (.ref (ma K (ga K bx) "__init__")) = some (.type "function")) && (PySem.W.keepIn K (.ref (ga K x)) && (decide (PySem.W.subIn K (.ref (ga K x)) (.type "BaseException") = some true) && (decide (PySem.W.typeIn K (.ref (ga K x)) = some (.type "type")) &&
  (PySem.W.hasDictIn K (ga K x) && (decide (PySem.W.exmOne K (.ref (ga K x)) (.ref (ga K x)) = some true) && (decide (PySem.W.exmOne K (.ref (ga K x)) (.ref (ga K bx)) = some true) && (eqO (PySem.W.findIn K (.ref (ga K x)) "__class__") (some (some (.builtin "object.__class__"))) &&
  (eqO (PySem.W.specialIn K (.builtin "object.__class__") "__get__") (some (some (.builtin "getset_descriptor.__get__"))) && (decide (PySem.W.takesIn K (.builtin "object.__class__") = some true) && (decide (PySem.W.mroIn K (ga K x) (.type "object") = some true) &&
  (decide (PySem.W.kitOne K (.ref (ga K x)) (.ref (ga K x)) = some true) && (decide (PySem.W.kitOne K (.ref (ga K x)) (.ref (ga K bx)) = some true) && decide (PySem.W.kitOne K (.ref (ga K x)) (.type "ValueError") = some true)))))))))))))))))))
structure ErrAll (K : PySem.W.Frag) (mg : Str → Option Value) (x bx : Str) : Prop where
  er : PySem.ErrX.ErrTxt K mg x (ga K x) (ma K (ga K bx) "__init__")
  gB : mg bx = some (.ref (ga K bx))
  ec : ExcC K (ga K x)
  xb : PySem.W.exmOne K (.ref (ga K x)) (.ref (ga K bx)) = some true
  ii : PySem.W.kitOne K (.ref (ga K x)) (.ref (ga K x)) = some true
  ib : PySem.W.kitOne K (.ref (ga K x)) (.ref (ga K bx)) = some true
  iv : PySem.W.kitOne K (.ref (ga K x)) (.type "ValueError") = some true
theorem errAll_ok {K : PySem.W.Frag} {h : Heap} {mg : Str → Option Value} {x bx : Str} {fd : FuncData} {p1 p2 q1 q2 q3 q4 : Pos} (X : K.In h) (G : h.Ns mainGlobals mg) (c1 : (Fa.glo x).ok K = true) (c2 : (Fa.glo bx).ok K = true) (ce : errAll x bx K = true)
    (F : FunD K "__init__" "FolderkinError.__init__" (PySem.ErrX.iA p1 p2) (PySem.ErrX.iB q1 q2 q3 q4) PySem.ErrX.iS [] [] (ma K (ga K bx) "__init__") fd) : ErrAll K mg x bx := by
  obtain ⟨e1, ce⟩ := ba ce
  obtain ⟨e2, ce⟩ := ba ce
  obtain ⟨e3, ce⟩ := ba ce
  obtain ⟨e4, ce⟩ := ba ce
  obtain ⟨e5, ce⟩ := ba ce
  obtain ⟨e6, ce⟩ := ba ce
  obtain ⟨e7, ce⟩ := ba ce
  obtain ⟨e8, ce⟩ := ba ce
  obtain ⟨e9, ce⟩ := ba ce
  obtain ⟨e10, ce⟩ := ba ce
  obtain ⟨e11, ce⟩ := ba ce
  obtain ⟨e12, ce⟩ := ba ce
  obtain ⟨e13, ce⟩ := ba ce
  obtain ⟨e14, ce⟩ := ba ce
  obtain ⟨e15, ce⟩ := ba ce
  obtain ⟨e16, ce⟩ := ba ce
  obtain ⟨e17, ce⟩ := ba ce
  obtain ⟨e18, ce⟩ := ba ce
  obtain ⟨e19, e20⟩ := ba ce
  obtain ⟨oc, od, dV, kV, doc, pm, an, cdv, ct, osl, rfl, lk, hcd, dfl, _⟩ := F.ex
  have ed : dV = .none := by
    rcases dfl with ⟨_, h⟩ | ⟨h, _⟩
    · exact h
    · exact absurd rfl h
  subst ed
  exact { er := { gC := glo_ok X G c1, cls := errB_ok e1, sa := eqO_ok e2, ga := eqO_ok e3, gg := eqO_ok e4, noN := eqO_ok e5, iC := eqO_ok e6, tC := of_decide_eq_true e7, kC := e8, exC := of_decide_eq_true e9, tyC := of_decide_eq_true e10, hdC := e11, te := of_decide_eq_true e12,
                  fn := ⟨oc, od, kV, doc, pm, an, cdv, ct, osl, p1, p2, q1, q2, q3, q4, lk, hcd⟩ },
          gB := glo_ok X G c2, ec := ⟨eqO_ok e3, eqO_ok e4, of_decide_eq_true e9, e11, eqO_ok e14, eqO_ok e15, of_decide_eq_true e16, of_decide_eq_true e17⟩,
          xb := of_decide_eq_true e13, ii := of_decide_eq_true e18, ib := of_decide_eq_true e19, iv := of_decide_eq_true e20 }
/-! ### calls of a def that may raise -/
structure CalX (P : Program) (w : World) (K : PySem.W.Frag) (mg : Str → Option Value) (base : Heap) (k : Nat) (x : Str) (sp : Sp) : Prop where
  ex : ∃ (f : Addr) (fd : FuncData) (ps : List Str), FnOk P w K mg base (L2.CX P w) k f fd ps sp ∧ mg x = some (.ref f) ∧ PySem.W.keepIn K (.ref f) = true ∧ Binds K fd ps []
theorem pe_cX {X : Cx} {k j : Nat} {x : Str} {sp : Sp} {p pos : Pos} {e : Expr} {es : List Expr} {t : TA} {W : WX} (c : CalX X.prog X.w X.K X.mg X.base k x sp) (hr : Room j X.A) (hk : k ≤ j) (tk : Takes X W) (hg : Gl X x) (ha : PA X (e :: es) t)
    (hdb : (x == ("__debug__" : Str)) = false := by decide) (he : starEach (e :: es) X.env = (false, eval e X.env) :: starEach es X.env := by rfl)
    (hpl : (backTo pos (starEach es X.env)).any (·.1) = false := by rfl) : PE X (.Call (.Name x p) (e :: es) [] pos) (tCallS sp (WE W) t) := by
  obtain ⟨f, fd, ps, F, hm, kp, b⟩ := c.ex
  exact pe_callS F (hr.mono hk) hg hm kp b (fun σ => passAt tk σ) ha hdb he hpl
/-- promises of a def that may raise, by arity -/
abbrev sp1X (R : V → Hp → VK → XK → Prop) : Sp := fun vs H Q E => ∃ a, vs = [a] ∧ R a H Q E
end Vf

namespace Vf
open PySem L2 PySem.Spec PyProof.Rows
/-- x == y, x an instance of a class with its own __eq__ that answers True or False; y one too, or a tuple -/
def rEqO (K : PySem.W.Frag) (C : Addr) (sp : Sp) (E : XK) : R2 := fun x y H Q => ∃ (a b dx : Addr) (fs : List (Str × V)), x = .ref a ∧ y = .ref b ∧ H a = some (.ins C dx fs) ∧
  ((∃ (dy : Addr) (gs : List (Str × V)), H b = some (.ins C dy gs)) ∨ (PySem.W.notFirst K C (.type "tuple") = true ∧ ∃ ys, SqT K H b ys)) ∧ sp [x, y] H (fun z H' => ∃ t, z = .bl t ∧ Q z H') E
theorem op_eqOwn {X : Cx} {CX : CXT} {C f : Addr} {fd : FuncData} {ps : List Str} {sp : Sp} {E : XK} {n : Nat} (F : FnOk X.prog X.w X.K X.mg X.base CX n f fd ps sp)
    (hs : PySem.W.findIn X.K (.ref C) "__eq__" = some (some (.ref f))) (hf : PySem.W.isFn X.K (.ref f) = true) (hb : Binds X.K fd ps []) (hx : Passes CX X E) (hr : Room n X.A) : OpR X (compareOp .Eq) (rEqO X.K C sp E) := by
  intro pins s σ H x y v u Q I rx ry q
  obtain ⟨a, b, dx, fs, rfl, rfl, ha, hy, hsp⟩ := q
  cases rx
  cases ry
  obtain ⟨mA, J, _⟩ := ins_get I.hok ha
  obtain ⟨od, J, _⟩ := J.look
  obtain ⟨m, hF⟩ := I.fr
  have go : ∀ tb : Value, PySem.W.Looks (model X.prog X.w) s.heap (typeOf (.ref b)) tb → PySem.W.notFirst X.K C tb = true → wpAny (model X.prog X.w) X.A (richCompare .Eq (.ref a) (.ref b)) (EP X pins σ Q) X.xe s := fun tb ht hn => by
    refine PySem.W.cmp_K (op := .Eq) (tb := tb) hr.units0 hF I.ok.mod.kin J ht hn hs hf ?_
    have hl := F.len _ _ _ _ hsp
    have r2 : Vals [V.ref a, V.ref b] [Value.ref a, Value.ref b] := .cons rfl (.cons rfl .nil)
    refine wpAny_call (codeAny_mono (F.run X.A X.stack s H ⟨[.ref a, .ref b], []⟩ [.ref a, .ref b] [.ref a, .ref b] _ E hr I.env0 (by
      have := hb s [.ref a, .ref b] I.kIn (by simpa using hl)
      simpa using this) r2 hsp) fun r s' hq => ?_)
    cases r with
    | error e => exact hx pins σ H s e s' I hq
    | ok fl =>
      cases fl with
      | ret w =>
        obtain ⟨z, H', I', rz, t, ez, hQ⟩ := I.after hq
        subst ez
        cases rz
        exact ⟨.bl t, H', I', rfl, hQ⟩
      | next => exact False.elim hq
      | brk => exact False.elim hq
      | cont => exact False.elim hq
  rcases hy with ⟨dy, gs, hy⟩ | ⟨hn, ys, hy⟩
  · obtain ⟨mB, J', _⟩ := ins_get I.hok hy
    obtain ⟨od', J', _⟩ := J'.look
    exact go (.ref C) J'.type (by simp [PySem.W.notFirst])
  · obtain ⟨its, rv, ⟨o, ho, hc, _⟩, _⟩ := I.tuple hy
    exact go (.type "tuple") (fun A Q E s' k z => wpAny_typeOf (T := "tuple") ⟨o, k _ _ ho, hc⟩ z) hn
end Vf

namespace Vf
open PySem L2 PySem.Spec PyProof.Rows He
/-! ### an own class: all yes-or-no facts of it -/
def clsB (x : Str) (K : PySem.W.Frag) : Bool :=
  eqO (PySem.W.findIn K (.ref (ga K x)) "__class__") (some (some (.builtin "object.__class__"))) &&
  (eqO (PySem.W.specialIn K (.builtin "object.__class__") "__get__") (some (some (.builtin "getset_descriptor.__get__"))) && (decide (PySem.W.takesIn K (.builtin "object.__class__") = some true) &&
  (decide (PySem.W.mroIn K (ga K x) (.type "object") = some true) && (decide (PySem.W.kitOne K (.ref (ga K x)) (.ref (ga K x)) = some true) && (decide (PySem.W.kitOne K (.type "tuple") (.ref (ga K x)) = some false) && PySem.W.notFirst K (ga K x) (.type "tuple"))))))
structure ClsT (K : PySem.W.Frag) (x : Str) : Prop where
  ha : PySem.W.findIn K (.ref (ga K x)) "__class__" = some (some (.builtin "object.__class__"))
  hn : PySem.W.specialIn K (.builtin "object.__class__") "__get__" = some (some (.builtin "getset_descriptor.__get__"))
  htk : PySem.W.takesIn K (.builtin "object.__class__") = some true
  hm : PySem.W.mroIn K (ga K x) (.type "object") = some true
  own : PySem.W.kitOne K (.ref (ga K x)) (.ref (ga K x)) = some true
  tup : PySem.W.kitOne K (.type "tuple") (.ref (ga K x)) = some false
  nf : PySem.W.notFirst K (ga K x) (.type "tuple") = true
theorem clsB_ok {x : Str} {K : PySem.W.Frag} (c : clsB x K = true) : ClsT K x := by
  unfold clsB at c
  obtain ⟨c1, c⟩ := ba c
  obtain ⟨c2, c⟩ := ba c
  obtain ⟨c3, c⟩ := ba c
  obtain ⟨c4, c⟩ := ba c
  obtain ⟨c5, c⟩ := ba c
  obtain ⟨c6, c7⟩ := ba c
  exact ⟨eqO_ok c1, eqO_ok c2, of_decide_eq_true c3, of_decide_eq_true c4, of_decide_eq_true c5, of_decide_eq_true c6, c7⟩
/-- == by its own __eq__ -/
def eqB (x : Str) (K : PySem.W.Frag) : Bool := eqO (PySem.W.findIn K (.ref (ga K x)) "__eq__") (some (some (.ref (ma K (ga K x) "__eq__")))) && PySem.W.isFn K (.ref (ma K (ga K x) "__eq__"))
structure EqC (P : Program) (w : World) (K : PySem.W.Frag) (mg : Str → Option Value) (base : Heap) (k : Nat) (x : Str) (sp : Sp) : Prop where
  ex : ∃ (f : Addr) (fd : FuncData) (ps : List Str), FnOk P w K mg base CX0 k f fd ps sp ∧ PySem.W.findIn K (.ref (ga K x)) "__eq__" = some (some (.ref f)) ∧ PySem.W.isFn K (.ref f) = true ∧ Binds K fd ps []
theorem op_eqC {X : Cx} {k j : Nat} {x : Str} {sp : Sp} (c : EqC X.prog X.w X.K X.mg X.base k x sp) (hr : Room j X.A) (hk : k ≤ j) : OpR X (compareOp .Eq) (rEqO X.K (ga X.K x) sp E0) := by
  obtain ⟨f, fd, ps, F, hs, hf, hb⟩ := c.ex
  exact op_eqOwn F hs hf hb pass0 (hr.mono hk)
/-- C(e, .., k = v) -/
structure MakN (P : Program) (w : World) (K : PySem.W.Frag) (mg : Str → Option Value) (base : Heap) (k : Nat) (x : Str) (C : Addr) (sp : Sp) (n : Nat) (ks : List Str) (gV : List V → List V → List V) : Prop where
  ex : ∃ (f : Addr) (fd : FuncData) (ps : List Str) (g : List Value → List Value → List Value), Mk K C f ∧ FnOk P w K mg base CX0 k f fd ps sp ∧ mg x = some (.ref C) ∧ KBn K fd ps (n + 1) ks g gV
theorem pe_mkN {X : Cx} {k j n : Nat} {C : Addr} {x : Str} {sp : Sp} {p pos : Pos} {e : Expr} {es : List Expr} {kws : List Keyword} {ks : List Str} {t tk : TA} {gV : List V → List V → List V} (c : MakN X.prog X.w X.K X.mg X.base k x C sp n ks gV) (hr : Room j X.A) (hk : k + 1 ≤ j) (hg : Gl X x)
    (ha : PA X (e :: es) t) (hkw : PK X kws tk) (hall : (backToKw pos (keywordEach kws X.env)).all (·.1.isSome) = true := by rfl) (hks : (backToKw pos (keywordEach kws X.env)).filterMap (·.1) = ks := by rfl)
    (hdb : (x == ("__debug__" : Str)) = false := by decide) (he : starEach (e :: es) X.env = (false, eval e X.env) :: starEach es X.env := by rfl)
    (hpl : ((backTo pos (starEach (e :: es) X.env)).any (·.1) || (backToKw pos (keywordEach kws X.env)).any (·.1.isNone)) = false := by rfl) :
    PE X (.Call (.Name x p) (e :: es) kws pos) (tMakeN C n ks.length sp gV E0 t tk) := by
  obtain ⟨f, fd, ps, g, M, F, hm, b⟩ := c.ex
  exact pe_makeN M F (hr.mono hk) hg hm b pass0 ha hkw hall hks hdb he hpl
theorem e_tMake {C : Addr} {sp : Sp} {dvs : List V} {E : XK} {t : TA} {σ : L2.St} {H : Hp} {Q : VK} (q : t σ H fun vs H1 => ∀ x dx, H1 x = none → H1 dx = none → dx ≠ x → sp (.ref x :: (vs ++ dvs)) (upd (upd H1 dx (.own x)) x (.ins C dx [])) (fun v H2 => v = .non ∧ Q (.ref x) H2) E) : tMake C sp dvs E t σ H Q := q
theorem e_tMakeN {C : Addr} {n m : Nat} {sp : Sp} {gV : List V → List V → List V} {E : XK} {t tk : TA} {σ : L2.St} {H : Hp} {Q : VK} (q : t σ H fun vs H1 => tk σ H1 fun zs H2 => vs.length = n ∧ zs.length = m ∧
  ∀ x dx, H2 x = none → H2 dx = none → dx ≠ x → sp (gV (.ref x :: vs) zs) (upd (upd H2 dx (.own x)) x (.ins C dx [])) (fun v H3 => v = .non ∧ Q (.ref x) H3) E) : tMakeN C n m sp gV E t tk σ H Q := q
/-! ### == and != of data with any texts -/
def rEqP (K : PySem.W.Frag) : R2 := fun x y H Q => ∃ d e, Dp K H x d ∧ Dp K H y e ∧ d.plain = true ∧ e.plain = true ∧ d.depth ≤ 60 ∧ Q (.bl (PyData.eqv d e)) H
def rNeP (K : PySem.W.Frag) : R2 := fun x y H Q => ∃ d e, Dp K H x d ∧ Dp K H y e ∧ d.plain = true ∧ e.plain = true ∧ d.depth ≤ 60 ∧ Q (.bl (!PyData.eqv d e)) H
theorem op_eqP {X : Cx} (hu : X.A.units + 64 < cLine) : OpR X (compareOp .Eq) (rEqP X.K) := by
  intro pins s σ H x y v u Q I rx ry h
  obtain ⟨d, e, hd, he, sd, se, hp, q⟩ := h
  obtain ⟨as, r1⟩ := Dp.reads I d x v hd rx
  obtain ⟨bs, r2⟩ := Dp.reads I e y u he ry
  exact PySem.SeqAt.eq_plain r1 r2 sd se (by omega) ⟨.bl _, H, I, rfl, q⟩
theorem op_neP {X : Cx} (hu : X.A.units + 64 < cLine) : OpR X (compareOp .NotEq) (rNeP X.K) := by
  intro pins s σ H x y v u Q I rx ry h
  obtain ⟨d, e, hd, he, sd, se, hp, q⟩ := h
  obtain ⟨as, r1⟩ := Dp.reads I d x v hd rx
  obtain ⟨bs, r2⟩ := Dp.reads I e y u he ry
  exact PySem.SeqAt.ne_plain r1 r2 sd se (by omega) ⟨.bl _, H, I, rfl, q⟩
end Vf

namespace Vf
open PySem L2 PySem.Spec PyProof.Rows He
/-! ### t[::-1] of a pair -/
section
variable {prog : Program} {w : World} {A : Around} {E : Value → Shared → Prop} {s : Shared}
theorem rev2_applied {sl : Addr} {u : Tok} {Q : Int × Int × Nat → Shared → Prop} (hs : s.heap.IsSliceOf sl .none .none (.int (-1) u)) (h : Q (1, -1, 2) s) :
    wpAny (model prog w) A (Builtin.Slice.sliceApplied (.ref sl) (pure ((2 : Nat) : Int))) Q E s := by
  obtain ⟨os, hos, hcs, hds⟩ := id hs
  unfold Builtin.Slice.sliceApplied Builtin.Slice.sliceFields
  refine wpAny_bind (wpAny_bind (wpAny_field hos hds (x := .none) rfl (wpAny_bind (wpAny_field hos hds (x := .none) rfl (wpAny_bind (wpAny_field hos hds (x := .int (-1) u) rfl (wpAny_pure ?_)))))))
  refine wpAny_bind (slicePart_int ?_)
  show wpAny _ _ (if ((-1 : Int) == 0) = true then _ else _) _ _ s
  rw [if_neg (by decide)]
  refine wpAny_bind (slicePart_none (wpAny_bind (slicePart_none (wpAny_bind (wpAny_pure ?_)))))
  show wpAny _ _ (match Builtin.Slice.sliceAdjust none none (-1) ((2 : Nat) : Int) with | (lo, hi) => pure (lo, (-1 : Int), Builtin.Slice.slicePlaces lo hi (-1))) _ _ s
  exact wpAny_pure h
theorem getItem_pair_rev {t sl : Addr} {v0 v1 : Value} {u : Tok} {Q : Value → Shared → Prop} (ht : IsTup s.heap t #[v0, v1]) (hs : s.heap.IsSliceOf sl .none .none (.int (-1) u))
    (h : Q (.ref s.heap.objs.size) { s with heap := s.heap.push { cls := .type "tuple", data := .seq #[v1, v0] } }) : wpAny (model prog w) A (getItem (.ref t) (.ref sl)) Q E s := by
  obtain ⟨os, hos, hcs, hds⟩ := id hs
  have hTs : s.TypeIs (.ref sl) "slice" := ⟨os, hos, hcs⟩
  unfold getItem
  try with_reducible refine wpAny_holding ?_
  first | refine wpAny_bind (wpAny_pure ?_) | skip
  refine wpAny_bind (wpAny_sequenceKey ht.typeIs (by decide) ?_)
  refine wpAny_bind (wpAny_callSpecial?_slot (name := Str.ofString "__getitem__") ht.typeIs PyProof.Rows.slot_tuple_getitem
    (wpAny_call_entry PyProof.Rows.slot_tuple_getitem ht.typeIs entry_tuple_getitem ?_ (args_tuple_getitem _ _)))
  show wpAny _ _ (Builtin.Tuple.tupleItemsOf (.ref t) >>= _) _ _ s
  refine wpAny_bind (tupleItemsOf_ ht ?_)
  refine wpAny_bind (wpAny_typeOf hTs ?_)
  rw [if_pos (by decide)]
  refine wpAny_bind (rev2_applied hs ?_)
  show wpAny _ _ (if (((1 : Int)) == 0 && (-1 : Int) == 1 && ((2 : Nat) == 2)) = true then _ else _) _ _ s
  rw [if_neg (by decide)]
  have hz : sizeOk (.seq #[v1, v0]) := by show (2 : Nat) ≤ sizeLine; decide
  first
    | exact wpAny_bind (m := Builtin.Tuple.tupleExact _) (wpAny_newObj_type (wpAny_pure ⟨_, rfl, wpAny_pure h⟩) hz)
    | exact wpAny_bind (m := Builtin.Tuple.tupleExact _) (wpAny_newObj_type (wpAny_bind (wpAny_pure (wpAny_pure ⟨_, rfl, wpAny_pure h⟩))) hz)
    | exact wpAny_bind (wpAny_bind (m := Builtin.Tuple.tupleExact _) (wpAny_newObj_type (wpAny_pure (wpAny_pure ⟨_, rfl, wpAny_pure h⟩)) hz))
    | exact wpAny_bind (wpAny_bind (m := Builtin.Tuple.tupleExact _) (wpAny_newObj_type (wpAny_pure ⟨_, rfl, wpAny_pure h⟩) hz))
end
section
variable {X : Cx}
def tRevT (K : PySem.W.Frag) (te : TE) : TE := fun σ H Q => te σ H fun x H1 => ∃ a u v, x = .ref a ∧ SqT K H1 a [u, v] ∧ ∀ p, H1 p = none → Q (.ref p) (upd H1 p (.tup [v, u]))
theorem pe_revT {e : Expr} {te : TE} {k : Nat} {p1 p2 p3 pos : Pos} (he : PE X e te) : PE X (.Subscript e (.Slice none none (some (.UnaryOp .USub (.Constant (.int 1) k p1) p2)) p3) pos) (tRevT X.K te) := by
  refine ⟨fun pins s σ H Q I h => ?_⟩
  refine Subscript_ (thn (he.run pins s σ H _ I h) fun v s1 ⟨x, H1, I1, r1, q1⟩ => ?_)
  obtain ⟨a, x0, x1, ex, hx, q⟩ := q1
  subst ex
  cases r1
  have hst : PO X (some (.UnaryOp .USub (.Constant (.int 1) k p1) p2)) (tPart (tUn (rU fun i => .int (-i)) (tC (.int 1)))) := po_some (pe_un un_neg pe_int)
  refine wpAny_Slice (thn (po_none.run pins s1 σ H1 (fun o H2 => o = none ∧ H2 = H1) I1 ⟨rfl, rfl⟩) fun vl s2 ⟨l, H2, I2, pl, el, e2⟩ => ?_)
  subst el e2
  refine thn (po_none.run pins s2 σ H2 (fun o H3 => o = none ∧ H3 = H2) I2 ⟨rfl, rfl⟩) fun vu s3 ⟨u, H3, I3, pu, eu, e3⟩ => ?_
  subst eu e3
  refine thn (hst.run pins s3 σ H3 (fun o H4 => o = some (-1) ∧ H4 = H3) I3 ⟨1, rfl, -1, rfl, rfl, rfl⟩) fun vs s4 ⟨o, H4, I4, ps, eo, e4⟩ => ?_
  subst eo e4
  cases pl
  cases pu
  cases ps with
  | int i tk =>
  have I5 : Inv X pins σ H4 { s4 with heap := s4.heap.push { cls := .type "slice", data := .fields #[.none, .none, .int (-1) tk] } } := I4.kept (t' := s4.toks) fun b ob q => Heap.get?_push_of_some _ q
  obtain ⟨its, r, ht, hz⟩ := I5.tuple hx
  obtain ⟨w0, w1, rfl, rv0, rv1⟩ := vals2 r
  show wpAny (model X.prog X.w) X.A (subscriptTail e (.Slice none none (some (.UnaryOp .USub (.Constant (.int 1) k p1) p2)) p3) (.ref a) (.ref s4.heap.objs.size)) (EP X pins σ Q) X.xe { s4 with heap := s4.heap.push { cls := .type "slice", data := .fields #[.none, .none, .int (-1) tk] } }
  refine tail_any (ops := [.ref a, .ref s4.heap.objs.size]) ht.typeIs PyProof.Rows.slot_tuple_getitem.lookup ?_ (by with_unfolding_all rfl)
  refine getItem_pair_rev ht (Heap.IsSliceOf.new _ _ _ _) ?_
  refine ⟨.ref _, _, I5.laid (t' := s4.toks) (o := .tup [x1, x0]) (fun b ob q => Heap.get?_push_of_some _ q) (Nat.le_refl _) ?_, rfl, q _ (I5.hok.fresh (Nat.le_refl _))⟩
  exact ⟨by show (2 : Nat) ≤ sizeLine; decide, _, .cons rv1 (.cons rv0 .nil), IsTup.new _ _⟩
/-! ### del d[t], the keys tuples -/
def sDDelT (td ty : TE) : TS := fun D σ H => td σ H fun x H1 => ty σ H1 fun y H2 => ∃ a kvs k b, x = .ref a ∧ H2 a = some (.dT kvs) ∧ y = .ref b ∧ H2 b = some (.tup (k.map kV)) ∧ (valV kvs k).isSome = true ∧ D.nx σ (upd H2 a (.dT (dropK kvs k)))
theorem ps_ddelT {o i : Expr} {pos tpos : Pos} {td ty : TE} (hu : X.A.units + 1 < cLine) (ho : PE X o td) (hi : PE X i ty) : PS X (.Delete [.Subscript o i tpos] pos) (sDDelT td ty) := by
  refine ⟨fun pins s σ H D I h => ?_⟩
  refine wpAny_Delete (wpAny_deleteEach_cons (wpAny_delete_Subscript (thn (ho.run pins s σ H _ I h) fun u s1 ⟨x, H1, I1, rx, q1⟩ => thn (hi.run pins s1 σ H1 _ I1 q1) fun iv s2 ⟨y, H2, I2, ry, a, kvs, k, b, ex, e, ey, eb, l, q2⟩ => ?_)))
  subst ex ey
  obtain rfl : u = Value.ref a := rx
  obtain rfl : iv = Value.ref b := ry
  obtain ⟨z, hd, xs, rel, dd⟩ := dt_of I2.hok e
  have hz : xs.length ≤ sizeLine := by rw [← Paired.length rel]; exact z
  obtain ⟨v0, ev⟩ := Option.isSome_iff_exists.mp l
  obtain ⟨w', hw, rw'⟩ := RelO.some_of (v := v0) (o := (atKey xs k).map (·.2)) (by rw [← ev]; exact rel.val k)
  obtain ⟨p, hp, hp2⟩ := Option.map_eq_some_iff.mp hw
  refine wpAny_delItem_heap (hsz := hz) (knd := tupleKind (mixKind X.prog X.w)) (tupleKind_room_in1 hu) (key_of I2.hok eb) hd dd hp fun h' dd' hs => ?_
  obtain ⟨q, es, ep, hq, h2, h3, h4, _, h5⟩ := dd'
  have I3 : Inv X pins σ (upd H2 a (.dT (dropK kvs k))) { s2 with heap := h', toks := s2.toks + (tupleKind (mixKind X.prog X.w)).draws k } :=
    d_write I2 (by rw [e]; exact True.intro) hs ⟨q, hq⟩ ⟨Nat.le_trans (dropK_le kvs k) z, hd, _, (DX.KT_drop k rel).keeps (fun c ys ec => (by rw [upd_ne (ne_of ec e (fun z => nomatch z))]; exact ec)), q, es, ep, hq, h2, h3, h4, h5⟩
  exact wpAny_deleteEach_nil ⟨σ, _, I3, q2⟩
end
end Vf

namespace Vf
open PySem L2 PySem.Spec PyProof.Rows He
theorem un65 {k : Nat} {A : Around} (r : Room k A) : A.units + 65 < cLine := by have := r.un; omega
/-! ### d.values() of a dict whose keys are tuples -/
def Itdt (d : Addr) (o : Obj) (kvs : List (List L2.Key × V)) : It :=
  ⟨fun i H => H d = some (.frz o (.dT kvs)) ∧ i < kvs.length, fun i H x H' => H' = H ∧ ∃ k, kvs[i]? = some (k, x), fun i H => H d = some (.frz o (.dT kvs)) ∧ kvs.length ≤ i⟩
theorem frzTV {X : Cx} {pins : List (Addr × Obj)} {σ : L2.St} {H : Hp} {s : Shared} {d : Addr} {o : Obj} {kvs : List (List L2.Key × V)} (I : Inv X pins σ H s) (h : H d = some (.frz o (.dT kvs))) :
    (d == sysModules) = false ∧ ∃ (es : Array DictEntry) (ep : Nat), o.data = .dict es ep ∧ s.heap.DictRaw d es ep ∧ es.size = kvs.length ∧
      ∀ (i : Nat) (k : List L2.Key) (v : V), kvs[i]? = some (k, v) → ∃ hi : i < es.size, RelV v es[i].val := by
  obtain ⟨hd, z, hs, xs, pr, o', es, ep, ho, hx, hdt, he, _⟩ := I.hok d _ h
  rw [hd] at ho
  cases ho
  have l1 : es.size = xs.length := size_of_entries he
  have l2 : kvs.length = xs.length := Paired.length pr
  refine ⟨hs, es, ep, hdt, ⟨o, hd, hx, hdt⟩, by omega, fun i k v e => ?_⟩
  obtain ⟨b, hb, e1, e2, e3⟩ := L2.paired_get pr e
  have q := entry_at he i
  rw [hb] at q
  obtain ⟨hi, q2⟩ := Array.getElem?_eq_some_iff.mp q
  exact ⟨hi, by rw [q2]; exact e3⟩
section
variable {P : Program} {w : World} {K : PySem.W.Frag} {tg : Expr} {d : Addr} {o : Obj} {es : Array DictEntry} {ep : Nat}
theorem turn_valsT {kvs : List (List L2.Key × V)} (it : Addr) (hod : o.data = .dict es ep) (hz : es.size = kvs.length) : Turn P w K tg (Itdt d o kvs) [it] it (fun i h => h.IsValIter it d i es.size ep) where
  mem := by simp
  obj := fun i h st b hb => by
    have e : b = it := by simpa using hb
    subst e
    obtain ⟨oi, e, c, dd⟩ := st
    exact ⟨oi, e, fun v z => by rw [dd] at z; cases z⟩
  keep := fun i h h' st k => st.at fun oi e => k it (by simp) oi e
  item := by
    intro X hP hw hK hc i pins s σ H E I hf st hg
    subst hP hw hK
    obtain ⟨hd, hi⟩ := hg
    obtain ⟨f0, f1, f2, f3, f4, f5⟩ := hf it (by simp)
    obtain ⟨hs, es', ep', hdt, hm, hsz, ent⟩ := frzTV I hd
    obtain ⟨rfl, rfl⟩ := dict_ep hod hdt
    obtain ⟨⟨k, v⟩, hkv⟩ : ∃ p, kvs[i]? = some p := ⟨kvs[i], List.getElem?_eq_getElem hi⟩
    obtain ⟨hi2, ru⟩ := ent i k v hkv
    refine PySem.wpAny_pyNext_values_item_raw st hm hi2 fun h' st' sb => ?_
    have I1 : Inv X pins σ H { s with heap := h' } := I.turned (t' := s.toks) (fun b ob hb e => (sb.2 b hb).trans e) f0 f1 f3 f4 f5
    obtain ⟨oi, e, c, dd⟩ := id st'
    exact ⟨_, rfl, go_of (s := { s with heap := h' }) e c dd (by decide) ⟨v, H, I1, ru, ⟨rfl, k, hkv⟩, st', fun b hb => (hf b hb).1⟩⟩
  done := by
    intro X hP hw hK hc i pins s σ H E I hf st hg
    subst hP hw hK
    obtain ⟨hd, hi⟩ := hg
    obtain ⟨f0, f1, f2, f3, f4, f5⟩ := hf it (by simp)
    obtain ⟨hs, es', ep', hdt, hm, hsz, ent⟩ := frzTV I hd
    obtain ⟨rfl, rfl⟩ := dict_ep hod hdt
    exact PySem.wpAny_pyNext_values_end_raw (I.ok.hd hc) st hm (by omega) fun h' eb => ⟨rfl, I.turned (t' := s.toks) (fun b ob hb e => eb b ob hb e) f0 f1 f3 f4 f5⟩
  self := fun A i s Q E st h => wpAny_pyIter_valiter st h
end
section
variable {X : Cx} {tg e : Expr} {td : TE} {apos cpos : Pos}
def iValsT (td : TE) : TI := fun σ H R => td σ H fun x H1 => ∃ d o kvs, x = .ref d ∧ H1 d = some (.frz o (.dT kvs)) ∧ R (Itdt d o kvs) H1
theorem pi_valuesT (he : PE X e td) (hbase : attributeBase e "values" X.env (eval e X.env) = eval e X.env := by rfl) (hline : (apos.endLine == cpos.line) = true := by rfl) : PI X tg (.Call (.Attribute e "values" apos) [] [] cpos) (iValsT td) := by
  refine ⟨fun pins s σ H R I h => ?_⟩
  refine wpAny_Call_method (T := "dict") (id := "dict.values") hbase rfl hline F.plainAttrs_dict F.slot_dict_values F.type_dict_values (thn (he.run pins s σ H _ I h) fun u s1 ⟨x, H1, I1, rx, d, o, kvs, ex, hd, q⟩ => ?_)
  subst ex
  obtain rfl : u = Value.ref d := rx
  obtain ⟨hs, es, ep, hdt, hm, hsz, ent⟩ := frzTV I1 hd
  have hnd : ∃ o, s1.heap.get? d = some o ∧ o.ExactDict := by
    obtain ⟨hd2, z, hs2, xs, pr, o', es', ep', ho, hx, _⟩ := I1.hok d _ hd
    exact ⟨o', ho, hx⟩
  obtain ⟨od, hod, hxd⟩ := hnd
  refine ⟨hm.typeIs, fun a ha => (by cases ha; exact ⟨od, hod, hxd.2.1⟩), ?_⟩
  have I2 : Inv X pins σ H1 { s1 with heap := s1.heap.push { cls := .type "dict_values", data := .fields #[.ref d] } } := I1.kept (t' := s1.toks) fun b ob q => Heap.get?_push_of_some _ q
  have fin : wpAny (model X.prog X.w) X.A (pyIter (.ref s1.heap.objs.size)) (PIE X pins σ tg R) X.xe { s1 with heap := s1.heap.push { cls := .type "dict_values", data := .fields #[.ref d] } } := by
    refine PySem.wpAny_pyIter_values_raw (d := d) (es := es) (ep := ep) ⟨_, Heap.get?_push_size _ rfl, rfl, rfl⟩ (hm.at fun _ e => Heap.get?_push_of_some _ e) (pi_one (tk := s1.toks) I2 _ (turn_valsT _ hdt hsz) ⟨_, Heap.get?_push_size _ rfl, rfl, ?_⟩ q)
    rfl
  show wpAny _ _ (callWith cpos (.builtin "dict.values") [.ref d] [] []) _ X.xe s1
  exact method_meetsIn F.slot_dict_values F.entry_dict_values rfl (PySem.evalArgs_none ⟨rfl, hm.typeIs, F.args_dict_values_1 _, _, PySem.meets_dict_values_raw d hs, ⟨es, ep, hm⟩, fin⟩)
theorem walk_valsT {kvs : List (List L2.Key × V)} {d : Addr} {o : Obj} : Walk (Itdt d o kvs) kvs.length (fun H => H d = some (.frz o (.dT kvs))) (fun i H x H' => H' = H ∧ ∃ k, kvs[i]? = some (k, x)) :=
  ⟨fun _ _ hi q => ⟨q, hi⟩, fun _ q => ⟨q, Nat.le_refl _⟩, fun _ _ _ _ _ _ y => y⟩
end
end Vf

namespace Vf
open PySem L2 PySem.Spec PyProof.Rows
/-! ### max(xs, key=f): xs a list of references, f an own def whose answers are data of one form -/
theorem run_in {X : Cx} {k : Nat} {f : Addr} {fd : FuncData} {ps : List Str} {sp : Sp} (F : FnOk X.prog X.w X.K X.mg X.base CX0 k f fd ps sp) (hb : Binds X.K fd ps []) {B : Around} (hr : Room k B) (hB : B.frames = X.A.frames)
    {pins : List (Addr × Obj)} {σ : L2.St} {H : Hp} {s : Shared} (I : Inv X pins σ H s) {vs : List V} {us : List Value} (r : Vals vs us) {Q : VK} (h : sp vs H Q E0) {T E : Value → Shared → Prop}
    (hT : ∀ u s', EP X pins σ Q u s' → T u s') : wpAny (model X.prog X.w) B (call (.ref f) us) T E s := by
  have hl : us.length = ps.length := by rw [← r.length]; exact F.len _ _ _ _ h
  have e0 : Env0 X.prog X.w X.K X.mg X.base B X.stack s H := by
    have e := I.env0
    exact ⟨hB.trans e.frames, e.mod, e.bs, e.bsz, e.funs, e.frf, e.hok, e.bare⟩
  have b0 := hb s us I.kIn (by rw [List.append_nil]; exact hl)
  rw [List.append_nil] at b0
  refine wpAny_call (codeAny_mono (F.run B X.stack s H ⟨us, []⟩ us vs Q E0 hr e0 b0 r h) fun r s' hq => ?_)
  cases r with
  | error e => exact False.elim hq
  | ok fl =>
    cases fl with
    | ret u => exact hT u s' (I.after hq)
    | next => exact False.elim hq
    | brk => exact False.elim hq
    | cont => exact False.elim hq
structure MxK (K : PySem.W.Frag) (sp : Sp) (a : Addr) (ps : List Addr) (kd : Nat → PyData) (J : Hp → Prop) : Prop where
  lst : ∀ H, J H → SqL K H a (ps.map V.ref)
  turn : ∀ i p H, ps[i]? = some p → J H → sp [.ref p] H (fun y H' => J H' ∧ (∀ z d, Dp K H z d → Dp K H' z d) ∧ Dp K H' y (kd i)) E0
  alk : ∀ i j, i < ps.length → j < ps.length → PySem.W.alike (kd i) (kd j) = true
  nn : ∀ i, i < ps.length → kd i ≠ .none
  dep : ∀ i, i < ps.length → (kd i).depth ≤ 60
abbrev mxB (kd : Nat → PyData) (i j : Nat) : Bool := PySem.W.dataLt (kd j) (kd i)
theorem argBest_lt (bt : Nat → Nat → Bool) : ∀ j, argBest bt j ≤ j
  | 0 => Nat.le_refl _
  | j + 1 => by
    have ih := argBest_lt bt j
    show (if bt (j + 1) (argBest bt j) = true then j + 1 else argBest bt j) ≤ j + 1
    split <;> omega
def mxS (v : Value) (kb : Value) (c : Nat) : Obj := { cls := .type "list", dict := none, data := .seq #[v, kb] c, slots := #[] }
structure MxSt (X : Cx) (pins : List (Addr × Obj)) (σ : L2.St) (a : Addr) (ps : List Addr) (kd : Nat → PyData) (J : Hp → Prop) (S it : Addr) (j : Nat) (s : Shared) : Prop where
  ex : ∃ (H : Hp) (y : V) (kb : Value) (c : Nat) (p : Addr), Inv X pins σ H s ∧ J H ∧ RelV y kb ∧ Dp X.K H y (kd (argBest (mxB kd) j)) ∧ ps[argBest (mxB kd) j]? = some p ∧ (FpOk X pins H S ∧ FpOk X pins H it) ∧ S ≠ it ∧
    s.heap.get? S = some (mxS (.ref p) kb c) ∧ s.heap.IsListIter it a (j + 1)
section
variable {X : Cx} {k : Nat} {f a : Addr} {fd : FuncData} {nm : List Str} {sp : Sp} {pins : List (Addr × Obj)} {σ : L2.St} {ps : List Addr} {kd : Nat → PyData} {J : Hp → Prop} {S it : Addr} {R : Result → Shared → Prop}
theorem fp_at {H H' : Hp} {b : Addr} (h : FpOk X pins H b) (n : H' b = none) : FpOk X pins H' b := ⟨n, h.2⟩
theorem iter_nocell {h : Heap} {it a : Addr} {i : Nat} (st : h.IsListIter it a i) : ∃ o, h.get? it = some o ∧ ∀ v, o.data ≠ .cell v := by
  obtain ⟨o, e, c, d⟩ := st
  exact ⟨o, e, fun v z => by rw [d] at z; cases z⟩
/-- f at the item, S and the iterator held -/
theorem mx_turn (F : FnOk X.prog X.w X.K X.mg X.base CX0 k f fd nm sp) (hb : Binds X.K fd nm []) (hr : Room (k + 1) X.A) (M : MxK X.K sp a ps kd J) {H : Hp} {s : Shared} {i m : Nat} {p : Addr} {o : Obj} (hp : ps[i]? = some p) (I : Inv X pins σ H s) (hJ : J H)
    (fS : FpOk X pins H S) (fI : FpOk X pins H it) (hS : s.heap.get? S = some o) (hoc : ∀ v, o.data ≠ .cell v) (st : s.heap.IsListIter it a m) {T E : Value → Shared → Prop}
    (hT : ∀ u s' H' y, Inv X pins σ H' s' → J H' → RelV y u → Dp X.K H' y (kd i) → (∀ z d, Dp X.K H z d → Dp X.K H' z d) → FpOk X pins H' S → FpOk X pins H' it → s'.heap.get? S = some o → s'.heap.IsListIter it a m → T u s') :
    wpAny (model X.prog X.w) X.A.in1 (call (.ref f) [.ref p]) T E s := by
  have I' : Inv X (pins ++ pinsAt [S, it] s.heap) σ H s := I.pinned (fp := [S, it]) (fun b hb' => by
      rcases List.mem_cons.mp hb' with e | hb'
      · rw [e]; exact fS
      · rw [List.mem_singleton.mp hb']; exact fI) (fun b hb' => by
      rcases List.mem_cons.mp hb' with e | hb'
      · rw [e]; exact ⟨o, hS, hoc⟩
      · rw [List.mem_singleton.mp hb']; exact iter_nocell st)
  refine run_in F hb hr.in1 rfl I' (vs := [.ref p]) (.cons rfl .nil) (M.turn i p H hp hJ) fun u s' q => ?_
  obtain ⟨y, H', I2, ry, j2, dk, dy⟩ := q
  obtain ⟨oi, hi, ci⟩ := iter_nocell st
  have pS := I2.pin (S, o) (List.mem_append_right _ (List.mem_append_right _ (mem_pinsAt (by simp) hS)))
  have pI := I2.pin (it, oi) (List.mem_append_right _ (List.mem_append_right _ (mem_pinsAt (by simp) hi)))
  refine hT u s' H' y I2.unpinned j2 ry dy dk (fp_at fS pS.2.1) (fp_at fI pI.2.1) pS.1 (st.at fun o' e => ?_)
  rw [hi] at e
  cases e
  exact pI.1
theorem mx_loop (F : FnOk X.prog X.w X.K X.mg X.base CX0 k f fd nm sp) (hb : Binds X.K fd nm []) (hr : Room (k + 1) X.A) (M : MxK X.K sp a ps kd J) (kw : List (Str × Value)) :
    ∀ (m j : Nat) (s : Shared), ps.length - (j + 1) = m → j + 1 ≤ ps.length → MxSt X pins σ a ps kd J S it j s →
    (∀ (H' : Hp) (s' : Shared) (p : Addr), Inv X pins σ H' s' → J H' → ps[argBest (mxB kd) (ps.length - 1)]? = some p → R (.ok (.ret (.ref p))) s') → codeAny (model X.prog X.w) X.A (.builtin "max.loop" ⟨[.ref it, .ref f, .ref S], kw⟩) R s := by
  have hname : (toString "max" ++ toString ".loop" : String) = "max.loop" := by decide
  intro m
  induction m with
  | zero =>
    intro j s hm hj ⟨H, y, kb, c, p, I, hJ, ry, dy, hp, ⟨fS, fI⟩, ne, hS, st⟩ hR
    obtain ⟨its, rv, pl, hz⟩ := I.list (M.lst H hJ)
    have hl := rv.length
    rw [List.length_map] at hl
    refine codeAny_builtin PySem.F.entry_max_loop ?_
    rw [Around.under_plainId PySem.F.plain_max_loop _]
    show wpAny _ X.A.in1 (seqItems? (.ref S) >>= _) _ _ s
    refine wpAny_bind (wpAny_seqItems hS rfl ?_)
    refine wpAny_bind (wpAny_tryCatch ?_)
    refine wpAny_pyNext_list_end hr.hd st pl.isList (by simp; omega) fun h' eb => ?_
    have I1 : Inv X pins σ H { s with heap := h' } := I.turned (t' := s.toks) (fun b o hb e => eb b o hb e) fI.1 fI.2.1 fI.2.2.2.1 fI.2.2.2.2.1 fI.2.2.2.2.2
    have hS' : ({ s with heap := h' } : Shared).heap.get? S = some (mxS (.ref p) kb c) := eb S _ ne hS
    show wpAny _ X.A.in1 (updateSeq S (fun _ => #[]) >>= _) _ _ _
    refine wpAny_bind (wpAny_updateSeq hS' rfl (wpAny_bind (wpAny_letGo (wpAny_pure ?_))))
    have I2 := I1.turned (it := S) (t' := s.toks) (h' := h'.update S (Obj.mapSeq fun _ => #[])) (fun b o hb e => (Heap.get?_update_other _ _ (Ne.symm hb)).trans e) fS.1 fS.2.1 fS.2.2.2.1 fS.2.2.2.2.1 fS.2.2.2.2.2
    refine hR H _ p I2 hJ ?_
    rw [show ps.length - 1 = j from by omega]
    exact hp
  | succ m ih =>
    intro j s hm hj ⟨H, y, kb, c, p, I, hJ, ry, dy, hp, ⟨fS, fI⟩, ne, hS, st⟩ hR
    obtain ⟨its, rv, pl, hz⟩ := I.list (M.lst H hJ)
    have hlt : j + 1 < ps.length := by omega
    have hx : ps[j + 1]? = some ps[j + 1] := List.getElem?_eq_getElem hlt
    obtain ⟨u, hu, ru⟩ := rv.get (i := j + 1) (x := .ref ps[j + 1]) (by rw [List.getElem?_map, hx]; rfl)
    cases ru
    generalize ps[j + 1] = q at hx hu
    refine codeAny_builtin PySem.F.entry_max_loop ?_
    rw [Around.under_plainId PySem.F.plain_max_loop _]
    show wpAny _ X.A.in1 (seqItems? (.ref S) >>= _) _ _ s
    refine wpAny_bind (wpAny_seqItems hS rfl ?_)
    refine wpAny_bind (wpAny_tryCatch ?_)
    refine wpAny_pyNext_list_item st pl.isList (x := .ref q) (by simpa using hu) fun h' st' sb => ?_
    have I1 : Inv X pins σ H { s with heap := h' } := I.turned (t' := s.toks) (fun b o hb e => (sb.2 b hb).trans e) fI.1 fI.2.1 fI.2.2.2.1 fI.2.2.2.2.1 fI.2.2.2.2.2
    have hS' : ({ s with heap := h' } : Shared).heap.get? S = some (mxS (.ref p) kb c) := (sb.2 S ne).trans hS
    refine wpAny_bind (wpAny_tryCatch (wpAny_holding (mx_turn F hb hr M hx I1 hJ fS fI hS' (fun v z => nomatch z) st' fun kx s2 H2 y2 I2 j2 ry2 dy2 dk fS2 fI2 hS2 st2 => ?_)))
    have dy3 := dk _ _ dy
    have hbl := argBest_lt (mxB kd) j
    obtain ⟨as1, r1⟩ := Dp.reads I2 _ _ _ dy2 ry2
    obtain ⟨as2, r2⟩ := Dp.reads I2 _ _ _ dy3 ry
    refine wpAny_bind (wpAny_tryCatch (wpAny_holding (wpAny_bind (PySem.W.gt_data r1 r2 (M.alk _ _ hlt (by omega)) (M.nn _ hlt) (by
      have h1 := Nat.min_le_left (kd (j + 1)).depth (kd (argBest (mxB kd) j)).depth
      have h2 := M.dep _ hlt
      have h3 := hr.un
      show X.A.units + 1 + _ < _
      omega) ?_))))
    refine wpAny_bind (wpAny_holding (wpAny_truthy_bool ?_))
    refine wpAny_bind (wpAny_letGo (wpAny_pure ?_))
    have eB : argBest (mxB kd) (j + 1) = if PySem.W.dataLt (kd (argBest (mxB kd) j)) (kd (j + 1)) = true then j + 1 else argBest (mxB kd) j := rfl
    cases hcmp : PySem.W.dataLt (kd (argBest (mxB kd) j)) (kd (j + 1)) with
    | true =>
      rw [hcmp, if_pos rfl] at eB
      simp only [if_true]
      refine wpAny_bind (wpAny_updateSeq hS2 rfl (wpAny_bind (wpAny_letGo ?_)))
      rw [hname]
      refine wpAny_pure ⟨plainId_quiet PySem.F.plain_max_loop _, ih (j + 1) _ (by omega) hlt ⟨H2, y2, kx, c, q, ?_, j2, ry2, by rw [eB]; exact dy2, by rw [eB]; exact hx, ⟨fS2, fI2⟩, ne, ?_, st2.at fun o e => ?_⟩ hR⟩
      · exact I2.turned (it := S) (t' := s2.toks) (fun b o hb e => (Heap.get?_update_other _ _ (Ne.symm hb)).trans e) fS2.1 fS2.2.1 fS2.2.2.2.1 fS2.2.2.2.2.1 fS2.2.2.2.2.2
      · exact Heap.get?_update_self _ hS2 rfl
      · exact (Heap.get?_update_other _ _ ne).trans e
    | false =>
      rw [hcmp, if_neg Bool.false_ne_true] at eB
      simp only [Bool.false_eq_true, if_false]
      refine wpAny_bind (wpAny_letGo ?_)
      rw [hname]
      exact wpAny_pure ⟨plainId_quiet PySem.F.plain_max_loop _, ih (j + 1) _ (by omega) hlt ⟨H2, y, kb, c, p, I2, j2, ry, by rw [eB]; exact dy3, by rw [eB]; exact hp, ⟨fS2, fI2⟩, ne, hS2, st2⟩ hR⟩
end
section
variable {X : Cx} {k : Nat} {f a : Addr} {fd : FuncData} {nm : List Str} {sp : Sp} {pins : List (Addr × Obj)} {σ : L2.St} {ps : List Addr} {kd : Nat → PyData} {J : Hp → Prop}
theorem mx_start (F : FnOk X.prog X.w X.K X.mg X.base CX0 k f fd nm sp) (hb : Binds X.K fd nm []) (hr : Room (k + 1) X.A) (M : MxK X.K sp a ps kd J) {S it : Addr} {R : Result → Shared → Prop} (kw : List (Str × Value)) (hn : 0 < ps.length) {H : Hp} {s : Shared} {c : Nat} (I : Inv X pins σ H s) (hJ : J H)
    (fS : FpOk X pins H S) (fI : FpOk X pins H it) (ne : S ≠ it) (hS : s.heap.get? S = some { cls := .type "list", dict := none, data := .seq #[] c, slots := #[] }) (st : s.heap.IsListIter it a 0)
    (hR : ∀ (H' : Hp) (s' : Shared) (p : Addr), Inv X pins σ H' s' → J H' → ps[argBest (mxB kd) (ps.length - 1)]? = some p → R (.ok (.ret (.ref p))) s') : codeAny (model X.prog X.w) X.A (.builtin "max.loop" ⟨[.ref it, .ref f, .ref S], kw⟩) R s := by
  have hname : (toString "max" ++ toString ".loop" : String) = "max.loop" := by decide
  obtain ⟨its, rv, pl, hz⟩ := I.list (M.lst H hJ)
  have hx : ps[0]? = some ps[0] := List.getElem?_eq_getElem hn
  obtain ⟨u, hu, ru⟩ := rv.get (i := 0) (x := .ref ps[0]) (by rw [List.getElem?_map, hx]; rfl)
  cases ru
  generalize ps[0] = q at hx hu
  refine codeAny_builtin PySem.F.entry_max_loop ?_
  rw [Around.under_plainId PySem.F.plain_max_loop _]
  show wpAny _ X.A.in1 (seqItems? (.ref S) >>= _) _ _ s
  refine wpAny_bind (wpAny_seqItems hS rfl ?_)
  refine wpAny_bind (wpAny_tryCatch ?_)
  refine wpAny_pyNext_list_item st pl.isList (x := .ref q) (by simpa using hu) fun h' st' sb => ?_
  have I1 : Inv X pins σ H { s with heap := h' } := I.turned (t' := s.toks) (fun b o hb e => (sb.2 b hb).trans e) fI.1 fI.2.1 fI.2.2.2.1 fI.2.2.2.2.1 fI.2.2.2.2.2
  have hS' : ({ s with heap := h' } : Shared).heap.get? S = some { cls := .type "list", dict := none, data := .seq #[] c, slots := #[] } := (sb.2 S ne).trans hS
  refine wpAny_bind (wpAny_tryCatch (wpAny_holding (mx_turn F hb hr M hx I1 hJ fS fI hS' (fun v z => nomatch z) st' fun kx s2 H2 y2 I2 j2 ry2 dy2 dk fS2 fI2 hS2 st2 => ?_)))
  refine wpAny_bind (wpAny_updateSeq hS2 rfl ?_)
  rw [hname]
  refine wpAny_pure ⟨plainId_quiet PySem.F.plain_max_loop _, mx_loop F hb hr M kw _ 0 _ rfl hn ⟨H2, y2, kx, c + 1, q, ?_, j2, ry2, dy2, hx, ⟨fS2, fI2⟩, ne, ?_, st2.at fun o e => ?_⟩ hR⟩
  · exact I2.turned (it := S) (t' := s2.toks) (fun b o hb e => (Heap.get?_update_other _ _ (Ne.symm hb)).trans e) fS2.1 fS2.2.1 fS2.2.2.2.1 fS2.2.2.2.2.1 fS2.2.2.2.2.2
  · exact Heap.get?_update_self _ hS2 rfl
  · exact (Heap.get?_update_other _ _ ne).trans e
/-- the best of a row, the first of equals -/
abbrev mxI (kd : Nat → PyData) (n : Nat) : Nat := argBest (mxB kd) (n - 1)
def rMaxF (K : PySem.W.Frag) (sp : Sp) : List V → Hp → VK → Prop := fun vs H Q => ∃ (a : Addr) (ps : List Addr) (kd : Nat → PyData) (J : Hp → Prop), vs = [.ref a] ∧ 0 < ps.length ∧ J H ∧ MxK K sp a ps kd J ∧
  ∀ H' p, J H' → ps[mxI kd ps.length]? = some p → Q (.ref p) H'
theorem cr_maxF (F : FnOk X.prog X.w X.K X.mg X.base CX0 k f fd nm sp) (hb : Binds X.K fd nm []) (hr : Room (k + 1) X.A) : CallRK X (.builtin "max") [Str.ofString "key"] (fun vs zs H Q => zs = [.ref f] ∧ rMaxF X.K sp vs H Q) := by
  intro pins s σ H vs zs us ws Q I r rz hq
  obtain ⟨rfl, a, ps, kd, J, rfl, hn, hJ, M, q⟩ := hq
  obtain rfl := Vals.ref1 r
  obtain ⟨w1, rfl, e1⟩ := vals1 rz
  obtain rfl : w1 = Value.ref f := e1
  have hname : (toString "max" ++ toString ".loop" : String) = "max.loop" := by decide
  refine PyProof.Rows.kmk_tree PySem.F.kind_max PySem.F.plain_max PySem.F.entry_max (PyProof.Rows.kmk_max_key _ _) ?_
  refine wpAny_bind (wpAny_of_eq (a := [some (.ref f), none]) (by rfl) ?_)
  refine wpAny_bind (wpAny_pure ?_)
  obtain ⟨its, rv, pl, hz⟩ := I.list (M.lst H hJ)
  refine wpAny_bind (wpAny_pyIter_list pl.isList ?_)
  have I1 : Inv X pins σ H { s with heap := s.heap.push { cls := .type "list_iterator", data := .fields #[.ref a, .int 0 0] } } := I.kept (t' := s.toks) fun b o e => Heap.get?_push_of_some _ e
  have fI : FpOk X pins H s.heap.objs.size := I.fpOk (Nat.le_refl _) (I.hok.fresh (Nat.le_refl _))
  have st0 : ({ s with heap := s.heap.push { cls := .type "list_iterator", data := .fields #[.ref a, .int 0 0] } } : Shared).heap.IsListIter s.heap.objs.size a 0 := ⟨_, Heap.get?_push_size _ rfl, rfl, rfl⟩
  generalize hs1 : ({ s with heap := s.heap.push { cls := .type "list_iterator", data := .fields #[.ref a, .int 0 0] } } : Shared) = s1 at I1 st0 ⊢
  have sz1 : s1.heap.objs.size = s.heap.objs.size + 1 := by rw [← hs1]; exact size_push' ..
  have fS : FpOk X pins H s1.heap.objs.size := I1.fpOk (Nat.le_refl _) (I1.hok.fresh (Nat.le_refl _))
  refine wpAny_bind (wpAny_newObj_type ?_)
  rw [hname]
  have I2 : Inv X pins σ H { s1 with heap := s1.heap.push { cls := .type "list", data := .seq #[] 0 } } := I1.kept (t' := s1.toks) fun b o e => Heap.get?_push_of_some _ e
  exact wpAny_pure ⟨plainId_quiet PySem.F.plain_max_loop _, mx_start F hb hr M _ hn I2 hJ fS fI (fun z => by rw [sz1] at z; exact absurd z (Nat.succ_ne_self _)) (Heap.get?_push_size _ rfl) (st0.at fun o e => Heap.get?_push_of_some _ e) fun H' s' p I' hJ' hp => ⟨.ref p, H', I', rfl, q H' p hJ' hp⟩⟩
end
def tMaxF (K : PySem.W.Frag) (sp : Sp) (ta : TA) : TE := fun σ H Q => ta σ H fun vs H1 => rMaxF K sp vs H1 Q
theorem pe_maxF {X : Cx} {k j : Nat} {x : Str} {sp : Sp} {p p2 p3 pos : Pos} {e : Expr} {t : TA} (c : Cal X.prog X.w X.K X.mg X.base k x sp) (hr : Room j X.A) (hk : k + 1 ≤ j) (hg : Gl X "max") (hm : X.mg "max" = none) (hgx : Gl X x) (ha : PA X [e] t)
    (hdb : (x == ("__debug__" : Str)) = false := by decide)
    (he : backTo pos (starEach [e] X.env) = (false, eval e X.env) :: backTo pos (starEach [] X.env) := by rfl) (hpl : (backTo pos (starEach [e] X.env)).any (·.1) = false := by rfl)
    (hall : (backToKw pos (keywordEach [⟨some "key", .Name x p2, p3⟩] X.env)).all (·.1.isSome) = true := by rfl) (hnone : (backToKw pos (keywordEach [⟨some "key", .Name x p2, p3⟩] X.env)).any (·.1.isNone) = false := by rfl) (hks : (backToKw pos (keywordEach [⟨some "key", .Name x p2, p3⟩] X.env)).filterMap (·.1) = [Str.ofString "key"] := by rfl) :
    PE X (.Call (.Name "max" p) [e] [⟨some "key", .Name x p2, p3⟩] pos) (tMaxF X.K sp t) := by
  obtain ⟨f, fd, ps, F, hmx, hkp, hb⟩ := c.ex
  refine ⟨fun pins s σ H Q I h => ?_⟩
  refine wpAny_Call_Name_kw (ld_blt I hg hm (u := .builtin "max") (by first | rfl | decide +kernel) ?_ (by decide) (by decide))
  refine PyProof.Rows.callWith_kw (thn (ha.run pos pins s σ H _ I h) fun us s1 ⟨vs, H1, I1, r1, q1⟩ => thn ((pk_cons (pe_glob (v := .ref f) hgx hmx rfl hdb) pk_nil).run pos pins s1 σ H1 (fun zs H2 => zs = [V.ref f] ∧ rMaxF X.K sp vs H2 Q) I1 ⟨rfl, q1⟩) fun ws s2 ⟨zs, H2, I2, r2, q2⟩ => ?_) he hpl hall hnone
  rw [hks]
  exact cr_maxF F hb (hr.mono hk) pins s2 σ H2 vs zs us ws Q I2 r1 r2 q2
end Vf

namespace Vf
open PySem L2 PySem.Spec PyProof.Rows He
/-! ### a written tuple, known to be a plain one -/
def tTupP (t : TA) : TE := fun σ H Q => t σ H fun xs H1 => xs.length ≤ sizeLine ∧ ∀ p H', H1 p = none → Same H1 H' → PlT H' p xs → (∀ b, b ≠ p → H' b = H1 b) → Q (.ref p) H'
theorem pe_tupP {X : Cx} {es : List Expr} {x1} {pos : Pos} {t : TA} (h : PA X es t) : PE X (.Tuple es x1 pos) (tTupP t) := by
  refine ⟨fun pins s σ H Q I hq => ?_⟩
  refine wpAny_Tuple_spliced (thn (h.run pos pins s σ H _ I hq) fun us s1 ⟨xs, H1, I1, r, z, q⟩ => ⟨by rw [← r.length]; exact z, ?_⟩)
  have hf : H1 s1.heap.objs.size = none := I1.hok.fresh (Nat.le_refl _)
  have J : Inv X pins σ (upd H1 s1.heap.objs.size (.frz { cls := .type "tuple", data := .seq us.toArray } (.tup xs))) { s1 with heap := s1.heap.push { cls := .type "tuple", data := .seq us.toArray } } :=
    I1.laid (t' := s1.toks) (fun b u e => Heap.get?_push_of_some _ e) (Nat.le_refl _) ⟨Heap.get?_push_size _ rfl, z, us, r, ⟨_, Heap.get?_push_size _ rfl, rfl, _, rfl⟩⟩
  exact ⟨.ref s1.heap.objs.size, _, J, rfl, q _ _ hf (same_new hf) ⟨_, rfl, upd_same⟩ fun b hb => upd_ne hb⟩
theorem e_tupP {t : TA} {σ : L2.St} {H : Hp} {Q : VK} (q : t σ H fun xs H1 => xs.length ≤ sizeLine ∧ ∀ p H', H1 p = none → Same H1 H' → PlT H' p xs → (∀ b, b ≠ p → H' b = H1 b) → Q (.ref p) H') : tTupP t σ H Q := q
/-! ### an own class beside lists -/
def clsLB (x : Str) (K : PySem.W.Frag) : Bool := decide (PySem.W.kitOne K (.type "list") (.ref (ga K x)) = some false) && PySem.W.notFirst K (ga K x) (.type "list")
structure ClsL (K : PySem.W.Frag) (x : Str) : Prop where
  lst : PySem.W.kitOne K (.type "list") (.ref (ga K x)) = some false
  nf : PySem.W.notFirst K (ga K x) (.type "list") = true
theorem clsLB_ok {x : Str} {K : PySem.W.Frag} (c : clsLB x K = true) : ClsL K x := by
  unfold clsLB at c
  obtain ⟨c1, c2⟩ := ba c
  exact ⟨of_decide_eq_true c1, c2⟩
/-- x == y, x an instance with its own __eq__; y one too, a tuple or a list -/
def rEqOL (K : PySem.W.Frag) (C : Addr) (sp : Sp) (E : XK) : R2 := fun x y H Q => ∃ (a b dx : Addr) (fs : List (Str × V)), x = .ref a ∧ y = .ref b ∧ H a = some (.ins C dx fs) ∧
  ((∃ (dy : Addr) (gs : List (Str × V)), H b = some (.ins C dy gs)) ∨ (PySem.W.notFirst K C (.type "tuple") = true ∧ ∃ ys, SqT K H b ys) ∨ (PySem.W.notFirst K C (.type "list") = true ∧ ∃ ys, SqL K H b ys)) ∧ sp [x, y] H (fun z H' => ∃ t, z = .bl t ∧ Q z H') E
theorem op_eqOwnL {X : Cx} {CX : CXT} {C f : Addr} {fd : FuncData} {ps : List Str} {sp : Sp} {E : XK} {n : Nat} (F : FnOk X.prog X.w X.K X.mg X.base CX n f fd ps sp)
    (hs : PySem.W.findIn X.K (.ref C) "__eq__" = some (some (.ref f))) (hf : PySem.W.isFn X.K (.ref f) = true) (hb : Binds X.K fd ps []) (hx : Passes CX X E) (hr : Room n X.A) : OpR X (compareOp .Eq) (rEqOL X.K C sp E) := by
  intro pins s σ H x y v u Q I rx ry q
  obtain ⟨a, b, dx, fs, rfl, rfl, ha, hy, hsp⟩ := q
  cases rx
  cases ry
  obtain ⟨mA, J, _⟩ := ins_get I.hok ha
  obtain ⟨od, J, _⟩ := J.look
  obtain ⟨m, hF⟩ := I.fr
  have go : ∀ tb : Value, PySem.W.Looks (model X.prog X.w) s.heap (typeOf (.ref b)) tb → PySem.W.notFirst X.K C tb = true → wpAny (model X.prog X.w) X.A (richCompare .Eq (.ref a) (.ref b)) (EP X pins σ Q) X.xe s := fun tb ht hn => by
    refine PySem.W.cmp_K (op := .Eq) (tb := tb) hr.units0 hF I.ok.mod.kin J ht hn hs hf ?_
    have hl := F.len _ _ _ _ hsp
    have r2 : Vals [V.ref a, V.ref b] [Value.ref a, Value.ref b] := .cons rfl (.cons rfl .nil)
    refine wpAny_call (codeAny_mono (F.run X.A X.stack s H ⟨[.ref a, .ref b], []⟩ [.ref a, .ref b] [.ref a, .ref b] _ E hr I.env0 (by
      have := hb s [.ref a, .ref b] I.kIn (by simpa using hl)
      simpa using this) r2 hsp) fun r s' hq => ?_)
    cases r with
    | error e => exact hx pins σ H s e s' I hq
    | ok fl =>
      cases fl with
      | ret w =>
        obtain ⟨z, H', I', rz, t, ez, hQ⟩ := I.after hq
        subst ez
        cases rz
        exact ⟨.bl t, H', I', rfl, hQ⟩
      | next => exact False.elim hq
      | brk => exact False.elim hq
      | cont => exact False.elim hq
  rcases hy with ⟨dy, gs, hy⟩ | ⟨hn, ys, hy⟩ | ⟨hn, ys, hy⟩
  · obtain ⟨mB, J', _⟩ := ins_get I.hok hy
    obtain ⟨od', J', _⟩ := J'.look
    exact go (.ref C) J'.type (by simp [PySem.W.notFirst])
  · obtain ⟨its, rv, ⟨o, ho, hc, _⟩, _⟩ := I.tuple hy
    exact go (.type "tuple") (fun A Q E s' k z => wpAny_typeOf (T := "tuple") ⟨o, k _ _ ho, hc⟩ z) hn
  · obtain ⟨its, rv, ⟨o, n, ho, hc, _⟩, _⟩ := I.list hy
    exact go (.type "list") (fun A Q E s' k z => wpAny_typeOf (T := "list") ⟨o, k _ _ ho, hc⟩ z) hn
theorem op_eqCL {X : Cx} {k j : Nat} {x : Str} {sp : Sp} (c : EqC X.prog X.w X.K X.mg X.base k x sp) (hr : Room j X.A) (hk : k ≤ j) : OpR X (compareOp .Eq) (rEqOL X.K (ga X.K x) sp E0) := by
  obtain ⟨f, fd, ps, F, hs, hf, hb⟩ := c.ex
  exact op_eqOwnL F hs hf hb pass0 (hr.mono hk)
/-! ### xs != ys, lists of the same objects -/
def rNeR (K : PySem.W.Frag) : R2 := fun x y H Q => ∃ (a b : Addr) (ps : List Addr), x = .ref a ∧ y = .ref b ∧ SqL K H a (ps.map V.ref) ∧ SqL K H b (ps.map V.ref) ∧ Q (.bl false) H
theorem op_neR {X : Cx} {k : Nat} (hr : Room k X.A) : OpR X (compareOp .NotEq) (rNeR X.K) := by
  intro pins s σ H x y v u Q I rx ry q
  obtain ⟨a, b, ps, rfl, rfl, ha, hb, q⟩ := q
  cases rx
  cases ry
  obtain ⟨its, rv, pl, _⟩ := I.list ha
  obtain ⟨its2, rv2, pl2, _⟩ := I.list hb
  have e1 := refs_of rv
  have e2 := refs_of rv2
  subst e1 e2
  have h := SeqAt.RcNeAt.lists (A := X.A) (s := s) (e := fun _ => true) pl.isList pl2.isList rfl hr.units0 fun j h1 h2 => SeqAt.EqAt.same _
  have e0 : ((List.range (ps.map Value.ref).toArray.size).all fun _ => true) = true := List.all_eq_true.mpr fun _ _ => rfl
  rw [e0] at h
  have h2 : SeqAt.RcNeAt X.A s (.ref a) (.ref b) false := h
  exact h2 X.prog X.w X.xe _ ⟨.bl false, H, I, rfl, q⟩
/-! ### data: ints, bools, texts, tuples of ints -/
theorem plain_ints : ∀ xs : List Int, PyData.plainAll (Di xs) = true
  | [] => by simp [PyData.plainAll]
  | x :: xs => by
    show PyData.plainAll (.int x :: Di xs) = true
    rw [PyData.plainAll, plain_ints xs]
    simp [PyData.plain]
theorem e_eqPV {K : PySem.W.Frag} {x y : V} {H : Hp} {Q : VK} {d e : PyData} (h1 : Dp K H x d) (h2 : Dp K H y e) (p1 : d.plain = true) (p2 : e.plain = true) (hd : d.depth ≤ 60) {b : Bool} (hb : PyData.eqv d e = b) (q : Q (.bl b) H) : rEqP K x y H Q := ⟨d, e, h1, h2, p1, p2, hd, by rw [hb]; exact q⟩
theorem e_nePV {K : PySem.W.Frag} {x y : V} {H : Hp} {Q : VK} {d e : PyData} (h1 : Dp K H x d) (h2 : Dp K H y e) (p1 : d.plain = true) (p2 : e.plain = true) (hd : d.depth ≤ 60) {b : Bool} (hb : PyData.eqv d e = b) (q : Q (.bl (!b)) H) : rNeP K x y H Q := ⟨d, e, h1, h2, p1, p2, hd, by rw [hb]; exact q⟩
theorem dp_ti {K : PySem.W.Frag} {H : Hp} {a : Addr} {xs : List Int} (h : SqT K H a (xs.map V.int)) : Dp K H (.ref a) (.tuple (Di xs)) := .tup h (dpAll_ints xs)
theorem e_eqPT {K : PySem.W.Frag} {H : Hp} {Q : VK} {a b : Addr} {xs ys : List Int} (h1 : SqT K H a (xs.map V.int)) (h2 : SqT K H b (ys.map V.int)) (q : Q (.bl (decide (xs = ys))) H) : rEqP K (.ref a) (.ref b) H Q :=
  e_eqPV (dp_ti h1) (dp_ti h2) (by simp [PyData.plain, plain_ints]) (by simp [PyData.plain, plain_ints]) (by
    show PyData.depthAll (Di xs) + 1 ≤ 60
    rw [depthAll_ints]; decide) (eqvAll_ints xs ys) q
end Vf

namespace Vf
open PySem L2 PySem.Spec PyProof.Rows He
/-- a name that the top imports -/
def bfB (x : Str) (id : String) (K : PySem.W.Frag) : Bool := eqO (PySem.W.nsIn K mainGlobals x) (some (some (.builtin id)))
theorem bfB_ok {K : PySem.W.Frag} {h : Heap} {mg : Str → Option Value} (X : K.In h) (G : h.Ns mainGlobals mg) {x : Str} {id : String} (c : bfB x id K = true) : mg x = some (.builtin id) := PySem.W.mg_of X G (eqO_ok c)
/-- s.index(y), y found -/
theorem mt_idxS {X : Cx} : MtR X "str.index" (fun x xs H Q => ∃ (a b : Str) (k : Nat), x = .str a ∧ xs = [.str b] ∧ Txt.index0 a b = some k ∧ Q (.int (k : Nat)) H) := by
  intro pins s σ H x xs v us Q I rx rs h
  obtain ⟨a, b, k, rfl, rfl, hy, hq⟩ := h
  obtain ⟨t, rfl⟩ := rx
  cases rs with
  | cons r1 rs =>
    cases rs
    obtain ⟨u, rfl⟩ := r1
    cases q : Builtin.Str.occurrences a b 0 a.length 1 with
    | nil =>
      unfold Txt.index0 at hy
      rw [q] at hy
      cases hy
    | cons k' rest =>
      unfold Txt.index0 at hy
      rw [q] at hy
      cases hy
      exact PySem.SC.index q ⟨.int (k : Nat), H, I.tok _, ⟨_, rfl⟩, hq⟩
/-- reversed(range(a, b, c)) -/
def PRg3 (X : Cx) (e : Expr) (t : L2.St → Hp → (Int → Int → Int → Nat → Hp → Prop) → Prop) : Prop :=
  ∀ (pins : List (Addr × Obj)) (s : Shared) (σ : L2.St) (H : Hp) (Q : Int → Int → Int → Nat → Hp → Prop), Inv X pins σ H s → t σ H Q →
    wpAny (model X.prog X.w) X.A (eval e X.env) (fun x s' => ∃ r a b c n t u v H', x = .ref r ∧ IsRange s'.heap r a b c t u v ∧ Builtin.Range.handS_smallRev a b c = true ∧ Builtin.Range.rangeSize a b c = (n : Nat) ∧ Inv X pins σ H' s' ∧ Q a b c n H') X.xe s
def tRg3 (ta : TA) : L2.St → Hp → (Int → Int → Int → Nat → Hp → Prop) → Prop := fun σ H Q => ta σ H fun vs H1 => ∃ i j k n, vs = [.int i, .int j, .int k] ∧ RgC i j k n ∧ Builtin.Range.handS_smallRev i j k = true ∧ Q i j k n H1
theorem prg_3 {X : Cx} {a b c : Expr} {ta : TA} {p pos : Pos} (hg : Gl X "range") (hm : X.mg "range" = none) (ha : PA X [a, b, c] ta)
    (hs : starEach [a, b, c] X.env = (false, eval a X.env) :: starEach [b, c] X.env := by rfl) (hpl : (backTo pos (starEach [b, c] X.env)).any (·.1) = false := by rfl) : PRg3 X (.Call (.Name "range" p) [a, b, c] [] pos) (tRg3 ta) := by
  intro pins s σ H Q I h
  refine Call_ (ld_blt I hg hm boot_range (PyProof.Rows.callWith_type1 (thn (ha.run pos pins s σ H _ I h) fun us s1 ⟨vs, H1, I1, r1, q1⟩ => ?_) hs hpl))
  obtain ⟨i, j, k, n, e, ⟨c0, c1, c2, c3⟩, hr, q⟩ := q1
  subst e
  cases r1 with
  | cons r rr =>
    cases rr with
    | cons r' rr =>
      cases rr with
      | cons r'' rr =>
        cases rr
        obtain ⟨t, rfl⟩ := r
        obtain ⟨t', rfl⟩ := r'
        obtain ⟨t'', rfl⟩ := r''
        exact call_range_3 c0 ⟨_, i, j, k, n, _, _, _, H1, rfl, IsRange.new .., hr, c3, I1.kept fun b u e => Heap.get?_push_of_some _ e, q⟩ (.inl (PyProof.noPylong_small c1))
def iRevR3 (tr : L2.St → Hp → (Int → Int → Int → Nat → Hp → Prop) → Prop) : TI := fun σ H R => tr σ H fun a _ c n H1 => R (Itc (a + ((n : Int) - 1) * c) (-c) n) H1
theorem pi_revR3 {X : Cx} {tg e : Expr} {tr : L2.St → Hp → (Int → Int → Int → Nat → Hp → Prop) → Prop} {p pos : Pos} (hg : Gl X "reversed") (hm : X.mg "reversed" = none) (he : PRg3 X e tr) (hs : starEach [e] X.env = (false, eval e X.env) :: starEach [] X.env := by rfl) :
    PI X tg (.Call (.Name "reversed" p) [e] [] pos) (iRevR3 tr) := by
  refine ⟨fun pins s σ H R I h => ?_⟩
  refine Call_ (ld_blt I hg hm PyProof.Rows.boot_reversed (PyProof.Rows.callWith_type1 (args_cons (thn (he pins s σ H _ I h) fun u s1 hx => args_nil ?_) hs) hs rfl))
  obtain ⟨r, a, b, c, n, t, w1, v, H1, eu, hr, hsm, hn, I1, q⟩ := hx
  subst eu
  refine call_reversed_range hr hsm (wpAny_pyIter_rangeiter (Heap.get?_push_size _ rfl) ?_)
  refine pi_one (tk := s1.toks) I1 _ (turn_rangeC _ (a + ((n : Int) - 1) * c) (-c) n) ?_ q
  have e1 : a + ((n : Int) - 1) * c + ((0 : Nat) : Int) * (-c) = a + (Builtin.Range.rangeSize a b c - 1) * c := by
    rw [hn]
    show _ + (0 : Int) * (-c) = _
    rw [Int.zero_mul, Int.add_zero]
  have e2 : (n : Int) - ((0 : Nat) : Int) = Builtin.Range.rangeSize a b c := by rw [hn]; omega
  show IsRangeIter _ _ (a + ((n : Int) - 1) * c + ((0 : Nat) : Int) * (-c)) ((n : Int) - ((0 : Nat) : Int)) (-c)
  rw [e1, e2]
  exact Heap.get?_push_size _ rfl
theorem pi_tupK {X : Cx} {tg e : Expr} {te : TE} (K : PySem.W.Frag) (h : PE X e te) (hK : X.K = K := by rfl) : PI X tg e (iTup K te) := hK ▸ pi_tup h
theorem pi_listK {X : Cx} {tg e : Expr} {te : TE} (K : PySem.W.Frag) (h : PE X e te) (hK : X.K = K := by rfl) : PI X tg e (iList K te) := hK ▸ pi_list h
end Vf

namespace Vf
open PySem L2 PySem.Spec PyProof.Rows He
/-! ### a dict comprehension over what is walked -/
def DcB (J : It) (g : TG) (tt : TT) (tk tv : TE) (vs : List Nat) (σ : L2.St) (D : Addr) (H1 : Hp) (Q : VK) : Prop := ∃ W : Nat → Nat → Hp → Prop, (∃ m, W 0 m (upd H1 D (.dK []))) ∧ ∀ i m H, W i m H →
  (J.stop i H ∧ Q (.ref D) H) ∨ (J.go i H ∧
    ∃ Nx : Hp → Prop, (∀ H', Nx H' → ∃ m', m' < m ∧ W (i + 1) m' H') ∧
    ∀ x H', J.yld i H x H' → g x (wipe σ vs) H' fun σ2 H2 => wipe σ2 vs = wipe σ vs ∧ tt σ2 H2 fun b H3 =>
    if b = true then tk σ2 H3 fun y H4 =>
      tv σ2 H4 fun z H5 => ∃ kvs k, y = kV k ∧ H5 D = some (.dK kvs) ∧ kvs.length < sizeLine ∧
      Nx (upd H5 D (.dK (putK kvs k z))) else Nx H3)
theorem e_dc {wi : TI} {g : TG} {tt : TT} {tk tv : TE} {vs : List Nat} {σ : L2.St} {H : Hp} {Q : VK} (q : wi σ H fun J H1 => ∀ D, H1 D = none → DcB J g tt tk tv vs σ D H1 Q) : tDc wi g tt tk tv vs σ H Q := q
theorem dc_it {J : It} {n : Nat} {G : Hp → Prop} {Y : Nat → Hp → V → Hp → Prop} (w : Walk J n G Y) {g : TG} {tt : TT} {tk tv : TE} {vs : List Nat} {σ : L2.St} {H1 : Hp} {D : Addr} {Q : VK} (Pv : Nat → Hp → Prop) (h0 : Pv 0 (upd H1 D (.dK []))) (hG : ∀ i H, i ≤ n → Pv i H → G H)
    (hs : ∀ i x H H', i < n → Pv i H → Y i H x H' → g x (wipe σ vs) H' fun σ2 H2 => wipe σ2 vs = wipe σ vs ∧ tt σ2 H2 fun b H3 =>
      if b = true then tk σ2 H3 fun y H4 => tv σ2 H4 fun z H5 => ∃ kvs k, y = kV k ∧ H5 D = some (.dK kvs) ∧ kvs.length < sizeLine ∧ Pv (i + 1) (upd H5 D (.dK (putK kvs k z))) else Pv (i + 1) H3)
    (hd : ∀ H, Pv n H → Q (.ref D) H) : DcB J g tt tk tv vs σ D H1 Q := by
  refine ⟨fun i m H => m = n - i ∧ i ≤ n ∧ Pv i H, ⟨n, by simp, Nat.zero_le _, h0⟩, ?_⟩
  rintro i m H ⟨rfl, hi, p⟩
  by_cases lt : i < n
  · exact .inr ⟨w.goes i H lt (hG i H hi p), Pv (i + 1), fun H' p' => ⟨n - (i + 1), by omega, rfl, lt, p'⟩, fun x H' y => hs i x H H' lt p (w.yields i H x H' lt (hG i H hi p) y)⟩
  · have e : i = n := by omega
    subst e
    exact .inl ⟨w.stops H (hG i H hi p), hd H p⟩
theorem tupOK (K : PySem.W.Frag) {X : Cx} (hK : X.K = K := by rfl) : CallR X (.type "tuple") (fun xs H Q => ∃ p ys, xs = [.ref p] ∧ ((SqL K H p ys ∧ ∀ l, H l = none → Q (.ref l) (upd H l (.tup ys))) ∨ (SqT K H p ys ∧ Q (.ref p) H))) := hK ▸ call_tuple_of
/-! ### dicts that differ in nothing -/
def rNeDD (K : PySem.W.Frag) : R2 := fun x y H Q => ∃ a b ks ls, x = .ref a ∧ y = .ref b ∧ H a = some (.dK ks) ∧ H b = some (.dK ls) ∧ ks.length = ls.length ∧
  (∀ p ∈ ks, ∃ u d, valV ls p.1 = some u ∧ Dp K H p.2 d ∧ Dp K H u d ∧ PySem.W.alike d d = true ∧ d.depth ≤ 60 ∧ PyData.eqv d d = true) ∧ Q (.bl false) H
theorem hits_data {X : Cx} {pins : List (Addr × Obj)} {σ : L2.St} {H : Hp} {s : Shared} (I : Inv X pins σ H s) {A : Around} (hu : A.units + 60 < cLine) {ls : List (L2.Key × V)} {vb : List (L2.Key × Value)} (rb : KV ls vb) {ks : List (L2.Key × V)} {va : List (L2.Key × Value)} (ra : KV ks va) :
    (∀ p ∈ ks, ∃ u d, valV ls p.1 = some u ∧ Dp X.K H p.2 d ∧ Dp X.K H u d ∧ PySem.W.alike d d = true ∧ d.depth ≤ 60 ∧ PyData.eqv d d = true) → PySem.W.KeqHits A s vb va true := by
  unfold KV at ra
  induction ra with
  | nil => intro _; exact .nil
  | @cons p q ps qs h t ih =>
    intro hp
    obtain ⟨h1, h2⟩ := h
    obtain ⟨u, d, e, d1, d2, al, dp, ev⟩ := hp p (List.mem_cons_self ..)
    have rr : RelO (some u) (valueAt vb p.1) := by rw [← e]; exact rb.val p.1
    obtain ⟨y, hy, ry⟩ := rr.some_of
    obtain ⟨key, v⟩ := q
    have h1' : p.1 = key := h1
    rw [h1'] at hy
    obtain ⟨as1, r1⟩ := Dp.reads I d p.2 v d1 h2
    obtain ⟨as2, r2⟩ := Dp.reads I d u y d2 ry
    have eq := PySem.W.eqAt_alike d d A s v y as1 as2 r1 r2 al (by have := Nat.min_le_left d.depth d.depth; omega)
    rw [ev] at eq
    have z := PySem.W.KeqHits.hit hy eq (ih fun p' hm => hp p' (List.mem_cons_of_mem _ hm))
    exact z
theorem op_neDD {X : Cx} (hu : X.A.units + 64 < cLine) : OpR X (compareOp .NotEq) (rNeDD X.K) := by
  intro pins s σ H x y v u Q I rx ry h
  obtain ⟨a, b, ks, ls, rfl, rfl, ea, eb, hlen, hp, q⟩ := h
  obtain rfl : v = Value.ref a := rx
  obtain rfl : u = Value.ref b := ry
  obtain ⟨_, ya, va, ra, da⟩ := (show ObjOk X.prog X.w H s.heap a (.dK ks) from I.hok a _ ea)
  obtain ⟨_, yb, vb, rb, db⟩ := (show ObjOk X.prog X.w H s.heap b (.dK ls) from I.hok b _ eb)
  have hl : va.length = vb.length := by rw [← ra.length, ← rb.length]; exact hlen
  refine PySem.W.keq_ne (knd := mixKind X.prog X.w) (r := true) ya yb da db (by omega) (fun _ => hits_data I (by show X.A.units + 1 + 60 < cLine; omega) rb ra hp) ?_
  rw [show (va.length == vb.length && true) = true from by rw [hl]; simp]
  exact ⟨.bl false, H, I, rfl, q⟩
end Vf

/-! set(xs), xs a list of ints: as HandS.SetFor has it for a tuple; sorted of it by cr_sortedSet. -/
namespace Vf
open PySem L2 PySem.Spec PyProof.Rows He
section
variable {P : Program} {w : World} {A : Around} {E : Value → Shared → Prop} {s : Shared}
/-- the new set as it is made -/
abbrev emptyS (w : World) : Obj := { cls := .type "set", dict := none, data := .set #[] 0 (.fresh 0 0 (!w.params.followText "set-order")) }
theorem set_of_ints {l : Addr} {its : Array Value} (ns : List Int) {Q : Value → Shared → Prop}
    (h0 : A.handled = none) (isl : s.heap.IsList l its) (hin : IntsAre its.toList ns)
    (small : ns.length + 1 < scanBound)
    (q : ∀ (g : Heap) (tk n : Nat), SetR w g s.heap.objs.size (fun j => decide (j ∈ ns)) n → n ≤ ns.length →
      (∀ b o, s.heap.get? b = some o → g.get? b = some o) →
      Q (.ref s.heap.objs.size) { s with heap := g, toks := tk }) :
    wpAny (model P w) A (call (.type "set") [.ref l]) Q E s := by
  have size : its.size = ns.length := by
    rw [← IntsAre.length hin]; exact Array.length_toList.symm
  obtain ⟨_, _, mro⟩ := F.called_set.mro
  have made := F.called_set.made; have sub := F.called_set.sub
  have e1 := F.called_set.notType; have e2 := F.called_set.canCreate
  have e3 := F.typeCall_set_1 (.ref l)
  refine wpAny_call (codeAny_of_tree ?_)
  show wpAny _ _ (callAny (.type "set") _) _ _ _
  refine wpAny_pure ⟨Code.quiet_builtin _ (by decide +kernel),
    codeAny_builtin F.entry_type_call ?_⟩
  rw [Around.under_plain (weight_type_call_type "set" [.ref l] []) rfl]
  repeat (any_goals (first | assumption | wp_step))

  refine codeAny_mono (code_set_led1 (.ref l) (E := E)
    (Q₁ := fun r t => r = .ref s.heap.objs.size ∧ t = { s with heap := s.heap.push (emptyS w) })
    ⟨rfl, rfl⟩) fun r t hr => ?_
  rcases r with e | fl
  · exact hr
  cases fl with
  | ret obj =>
    obtain ⟨rfl, rfl⟩ := hr
    have at1 : (s.heap.push (emptyS w)).get? s.heap.objs.size = some (emptyS w) := Heap.get?_push_size _ rfl
    have ty1 : Shared.TypeIs { s with heap := s.heap.push (emptyS w) } (.ref s.heap.objs.size) "set" := ⟨_, at1, rfl⟩
    have look := F.called_set.init.lookup
    have bind := F.called_set.init.bind (.ref s.heap.objs.size)
    repeat (any_goals (first | assumption | wp_step))

    refine codeAny_mono (codeAny_call_builtin
      (R := wants (fun r t => r = .none ∧ ∃ g tk n, t = { s with heap := g, toks := tk } ∧
        SetR w g s.heap.objs.size (fun j => decide (j ∈ ns)) n ∧ n ≤ ns.length ∧
        (∀ b o, s.heap.get? b = some o → g.get? b = some o)) E)
      F.called_set.init.plain F.entry_set_init (check_set_init_1 ty1 ?_)) fun r2 t2 hr2 => ?_
    · have isl1 : (s.heap.push (emptyS w)).IsList l its := isl.push _
      have d1 := F.sub_list_set
      have d2 := F.sub_list_frozenset
      have nd : (Value.type "list" == Value.type "dict") = false := by decide
      obtain ⟨ol, hol, hcl, nl, hdl⟩ := id isl
      obtain ⟨oc, od, odt, osl⟩ := ol
      simp only at hcl hdl
      subst hcl; subst hdl
      have hol1 := Heap.get?_push_of_some (emptyS w) hol
      unfold Builtin.«set.__init__» noKeywords Builtin.Frozenset.updateFrom
      generalize hPI : pyIter = PI
      wp_walk
      subst hPI

      refine wpAny_pyIter_list isl1 ?_
      refine wpAny_bind (wpAny_runValue ?_)
      have lt : l < s.heap.objs.size := Heap.lt_size hol
      have h3 : A.in1.in1.in1.handled = none := by simp [h0]
      have sz : (s.heap.push (emptyS w)).objs.size = s.heap.objs.size + 1 := Heap.size_push ..
      have n1 : l ≠ (s.heap.push (emptyS w)).objs.size := by rw [sz]; exact Nat.ne_of_lt (Nat.lt_succ_of_lt lt)
      have n2 : s.heap.objs.size ∉ [(s.heap.push (emptyS w)).objs.size, l] := by
        rw [sz]
        intro m
        rcases List.mem_cons.mp m with z | z
        · exact Nat.succ_ne_self _ z.symm
        · exact Nat.ne_of_gt lt (List.mem_singleton.mp z)
      have val : ∀ (i : Nat) (v : Value), its[i]? = some v → ∃ k t, ns[i]? = some k ∧ v = .int k t := fun i v hv => by
        have hi : i < ns.length := by rw [← size]; exact (Array.getElem?_eq_some_iff.mp hv).1
        obtain ⟨t, e⟩ := IntsAre.int_at hin i v (by rw [Array.getElem?_toList]; exact hv)
        rw [List.getD_eq_getElem?_getD, List.getElem?_eq_getElem hi] at e
        exact ⟨ns[i], t, List.getElem?_eq_getElem hi, e⟩
      refine set_update_ints ((Walks.list h3 _ l n1 its).toS) s.heap.objs.size n2 ns size small val
        (its.size - 0) 0 _ (by omega) (Nat.zero_le _)
        ⟨⟨_, Heap.get?_push_size _ rfl, rfl, rfl⟩, isl1.push _⟩
        ⟨0, Nat.le_refl 0, setR_new_at (Heap.get?_push_of_some _ at1)⟩ fun t' n mv le R => ?_
      obtain ⟨g, g2, dr, tk, os⟩ := t'
      have eg : g2 = s.gens := mv.gens
      have ed : dr = s.drawn := mv.drawn
      have eo : os = s.os := mv.os
      subst eg ed eo
      rw [size] at le
      show wpAny _ _ _ _ _ _
      refine wpAny_pure ?_
      show wpAny _ _ (ret Value.none) _ _ _
      refine wpAny_pure ⟨rfl, g, tk, n, rfl, R, le, fun b o e => ?_⟩
      have lb : b < s.heap.objs.size := Heap.lt_size e
      refine mv.heap b o (fun m => ?_) (Heap.get?_push_of_some _ (Heap.get?_push_of_some _ e))
      rcases List.mem_cons.mp m with z | z
      · exact Nat.ne_of_lt lb z
      · have := List.mem_singleton.mp z
        rw [sz] at this
        exact Nat.ne_of_lt (Nat.lt_succ_of_lt lb) this
    · rcases r2 with e | fl2
      · exact hr2
      cases fl2 with
      | ret r =>
        obtain ⟨rfl, g, tk, n, rfl, h1, h2, h3⟩ := hr2
        repeat (any_goals (first | assumption | wp_step))
        exact q _ _ _ h1 h2 h3
      | _ => exact hr2.elim
  | _ => exact hr.elim
end
/-- set(xs), xs a list of ints -/
def rSetL (K : PySem.W.Frag) (w : World) : List V → Hp → VK → Prop := fun xs H Q => ∃ (p : Addr) (ns : List Int), xs = [.ref p] ∧ SqL K H p (ns.map V.int) ∧ ns.length ≤ 1000 ∧
  ∀ a n, H a = none → n ≤ ns.length → Q (.ref a) (upd H a (SetO w a (fun j => decide (j ∈ ns)) n))
theorem cr_setL {X : Cx} (hc : X.calm = true) : CallR X (.type "set") (rSetL X.K X.w) := by
  intro pins s σ H xs us Q I r h
  obtain ⟨p, ns, rfl, hq, hl, q⟩ := h
  obtain ⟨u, rfl, rx⟩ := vals1 r
  cases rx
  obtain ⟨its, rv, pl, hz⟩ := I.list hq
  refine set_of_ints ns (I.ok.hd hc) pl.isList (by simpa using ints_of_vals rv) (by unfold scanBound; omega) fun g tk n R le k => ?_
  exact ⟨.ref s.heap.objs.size, _, I.laid (t' := tk) k (Nat.le_refl _) (setO_new R), rfl, q _ n (I.hok.fresh (Nat.le_refl _)) le⟩
end Vf
namespace Vf
open PySem L2 PySem.Spec PyProof.Rows He
theorem niDK (K : PySem.W.Frag) {X : Cx} (hu : X.A.units + 65 < cLine) (hK : X.K = K := by rfl) : OpR X (compareOp .NotIn) (rNotInD K) := hK ▸ op_notInD hu
/-! ### [e for x in xs for y in f(x)] -/
/-- the inner clause's turns, Nx where it ends -/
def Inn (J1 : It) (g1 : TG) (tt1 : TT) (te : TE) (vs1 : List Nat) (σ2 : L2.St) (D : Addr) (H4 : Hp) (Nx : Hp → Prop) : Prop :=
  ∃ W1 : Nat → Nat → Hp → Prop, (∃ m, W1 0 m H4) ∧ ∀ j k H, W1 j k H → (J1.stop j H ∧ Nx H) ∨ (J1.go j H ∧
    ∃ Nx1 : Hp → Prop, (∀ H', Nx1 H' → ∃ k', k' < k ∧ W1 (j + 1) k' H') ∧
    ∀ x H', J1.yld j H x H' → g1 x (wipe σ2 vs1) H' fun σ3 H5 => wipe σ3 vs1 = wipe σ2 vs1 ∧ tt1 σ3 H5 fun b H6 =>
      if b = true then te σ3 H6 fun y H7 => ∃ acc, H7 D = some (.lst acc) ∧ acc.length < sizeLine ∧ Nx1 (upd H7 D (.lst (acc ++ [y])))
      else Nx1 H6)
def Lc2B (J : It) (g : TG) (tt : TT) (wi1 : TI) (g1 : TG) (tt1 : TT) (te : TE) (vs vs1 : List Nat) (σ : L2.St) (D : Addr) (H1 : Hp) (Q : VK) : Prop :=
  ∃ W : Nat → Nat → Hp → Prop, (∃ m, W 0 m (upd H1 D (.lst []))) ∧ ∀ i m H, W i m H → (J.stop i H ∧ Q (.ref D) H) ∨ (J.go i H ∧
    ∃ Nx : Hp → Prop, (∀ H', Nx H' → ∃ m', m' < m ∧ W (i + 1) m' H') ∧
    ∀ x H', J.yld i H x H' → g x (wipe σ vs) H' fun σ2 H2 => wipe σ2 vs = wipe σ vs ∧ tt σ2 H2 fun b H3 =>
      if b = true then wi1 σ2 H3 fun J1 H4 => Inn J1 g1 tt1 te vs1 σ2 D H4 Nx else Nx H3)
theorem e_lc2 {wi wi1 : TI} {g g1 : TG} {tt tt1 : TT} {te : TE} {vs vs1 : List Nat} {σ : L2.St} {H : Hp} {Q : VK}
    (q : wi σ H fun J H1 => ∀ D, H1 D = none → Lc2B J g tt wi1 g1 tt1 te vs vs1 σ D H1 Q) : tLc2 wi g tt wi1 g1 tt1 te vs vs1 σ H Q := q
theorem inn_it {J : It} {n : Nat} {G : Hp → Prop} {Y : Nat → Hp → V → Hp → Prop} (w : Walk J n G Y) {g : TG} {tt : TT} {te : TE} {vs : List Nat} {σ : L2.St} {D : Addr} {H1 : Hp} {Nx : Hp → Prop}
    (Pv : Nat → Hp → Prop) (h0 : Pv 0 H1) (hG : ∀ i H, i ≤ n → Pv i H → G H)
    (hs : ∀ i x H H', i < n → Pv i H → Y i H x H' → g x (wipe σ vs) H' fun σ2 H2 => wipe σ2 vs = wipe σ vs ∧ tt σ2 H2 fun b H3 =>
      if b = true then te σ2 H3 fun y H4 => ∃ acc, H4 D = some (.lst acc) ∧ acc.length < sizeLine ∧ Pv (i + 1) (upd H4 D (.lst (acc ++ [y]))) else Pv (i + 1) H3)
    (hd : ∀ H, Pv n H → Nx H) : Inn J g tt te vs σ D H1 Nx := by
  refine ⟨fun i m H => m = n - i ∧ i ≤ n ∧ Pv i H, ⟨n, by simp, Nat.zero_le _, h0⟩, ?_⟩
  rintro i m H ⟨rfl, hi, p⟩
  by_cases lt : i < n
  · exact .inr ⟨w.goes i H lt (hG i H hi p), Pv (i + 1), fun H' p' => ⟨n - (i + 1), by omega, rfl, lt, p'⟩, fun x H' y => hs i x H H' lt p (w.yields i H x H' lt (hG i H hi p) y)⟩
  · have e : i = n := by omega
    subst e
    exact .inl ⟨w.stops H (hG i H hi p), hd H p⟩
theorem lc2_it {J : It} {n : Nat} {G : Hp → Prop} {Y : Nat → Hp → V → Hp → Prop} (w : Walk J n G Y) {g g1 : TG} {tt tt1 : TT} {te : TE} {wi1 : TI} {vs vs1 : List Nat} {σ : L2.St} {D : Addr} {H1 : Hp} {Q : VK}
    (Pv : Nat → Hp → Prop) (h0 : Pv 0 (upd H1 D (.lst []))) (hG : ∀ i H, i ≤ n → Pv i H → G H)
    (hs : ∀ i x H H', i < n → Pv i H → Y i H x H' → g x (wipe σ vs) H' fun σ2 H2 => wipe σ2 vs = wipe σ vs ∧ tt σ2 H2 fun b H3 =>
      if b = true then wi1 σ2 H3 fun J1 H4 => Inn J1 g1 tt1 te vs1 σ2 D H4 (Pv (i + 1)) else Pv (i + 1) H3)
    (hd : ∀ H, Pv n H → Q (.ref D) H) : Lc2B J g tt wi1 g1 tt1 te vs vs1 σ D H1 Q := by
  refine ⟨fun i m H => m = n - i ∧ i ≤ n ∧ Pv i H, ⟨n, by simp, Nat.zero_le _, h0⟩, ?_⟩
  rintro i m H ⟨rfl, hi, p⟩
  by_cases lt : i < n
  · exact .inr ⟨w.goes i H lt (hG i H hi p), Pv (i + 1), fun H' p' => ⟨n - (i + 1), by omega, rfl, lt, p'⟩, fun x H' y => hs i x H H' lt p (w.yields i H x H' lt (hG i H hi p) y)⟩
  · have e : i = n := by omega
    subst e
    exact .inl ⟨w.stops H (hG i H hi p), hd H p⟩
end Vf

/-! set(xs), xs a list of texts, and sorted of it; xs.remove(x) where the items are data. -/
namespace Vf
open PySem L2 PySem.Spec PyProof.Rows He
abbrev tk_ (P : Program) (w : World) := PySem.strKind P w
def txOf (e : Int × Value) : Str := match e.2 with | .str x _ => x | _ => Str.empty
def TxE (w : World) (e : Int × Value) : Prop := ∃ x u, e.2 = Value.str x u ∧ e.1 = hashStr w x
/-- the set at a has the texts L -/
def TxS (w : World) (h : Heap) (a : Addr) (L : List Str) : Prop :=
  ∃ ob arr ep tb, h.get? a = some ob ∧ ob.ExactSet ∧ ob.data = .set arr ep tb ∧ (∀ e ∈ arr.toList, TxE w e)
    ∧ (arr.toList.map txOf).Perm L ∧ L.Nodup ∧ L.length < scanBound ∧ tb.fits arr.size = true
    ∧ Ris tb.place.toList ∧ (w.params.followText "set-order" = true ∨ tb.led = true)
theorem TxS.to {w : World} {h g : Heap} {a : Addr} {L : List Str} (t : TxS w h a L) (k : ∀ o, h.get? a = some o → g.get? a = some o) : TxS w g a L := by
  obtain ⟨ob, arr, ep, tb, h1, r⟩ := t
  exact ⟨ob, arr, ep, tb, k _ h1, r⟩
section
variable {P : Program} {w : World} {A : Around} {E : Value → Shared → Prop} {s : Shared}
theorem tx_kinds {l : List (Int × Value)} (g : ∀ e ∈ l, TxE w e) : ElemsOf (tk_ P w) l := fun e m => by
  obtain ⟨x, u, e1, e2⟩ := g e m
  exact ⟨⟨x, by rw [e1]; exact PySem.strKind_is P w x u, e2⟩, by rw [e1]; rfl⟩
theorem tx_is {e : Int × Value} (g : TxE w e) (x : Str) : (tk_ P w).is x e.2 = true ↔ txOf e = x := by
  obtain ⟨y, u, e1, _⟩ := g
  have h1 : txOf e = y := by unfold txOf; rw [e1]
  rw [h1, e1]
  constructor
  · intro q
    exact (tk_ P w).inj _ _ _ (PySem.strKind_is P w y u) q
  · rintro rfl
    exact PySem.strKind_is P w y u
theorem tx_size {arr : Array (Int × Value)} {L : List Str} (p : (arr.toList.map txOf).Perm L) : arr.size = L.length := by
  have := p.length_eq
  rw [List.length_map] at this
  rw [← this]
  exact Array.length_toList.symm
/-- where the new one is stored -/
theorem tx_store {gv : Bool → Sem Unit} (hgv : ∀ (b : Bool) (s1 : Shared) (R : Unit → Shared → Prop), R () s1 → wpAny (model P w) A (gv b) R E s1)
    {a : Addr} {ob : Obj} {arr : Array (Int × Value)} {ep : Nat} {tb : SetTable}
    (e0 : s.heap.get? a = some ob) (ex : ob.ExactSet) (ed : ob.data = .set arr ep tb)
    {arr1 : Array (Int × Value)} {tb1 : SetTable} {L : List Str}
    (g1 : ∀ e ∈ arr1.toList, TxE w e) (p1 : (arr1.toList.map txOf).Perm L) (n1 : L.Nodup) (b1 : L.length < scanBound)
    (f1 : tb1.fits arr1.size = true) (r1 : Ris tb1.place.toList) (l1 : w.params.followText "set-order" = true ∨ tb1.led = true)
    {dm : Bool} {R : Option Bool → Shared → Prop}
    (q : ∀ g, Heap.SameBut a s.heap g → TxS w g a L → R (some true) { s with heap := g }) :
    wpAny (model P w) A (do
      storeSet a arr1 tb1
      if (!dm && tb1.tooFull) = true then do
        gv (relayAll tb1 arr1 (SetTable.grown arr1.size)).2.2
        storeSet a (relayAll tb1 arr1 (SetTable.grown arr1.size)).1 (relayAll tb1 arr1 (SetTable.grown arr1.size)).2.1
        pure (some true)
      else pure (some true)) R E s := by
  have bs : arr1.size < scanBound := by rw [tx_size p1]; exact b1
  refine wpAny_bind (wpAny_storeSet_of e0 ed ?_ (fits_of_scanBound bs))
  have e1 := store_at (es' := arr1) (t' := tb1) e0 ed
  have sb := Heap.SameBut.update s.heap a (Obj.putSet arr1 tb1)
  by_cases c : (!dm && tb1.tooFull) = true
  · rw [if_pos c]
    have pm := relayAll_perm tb1 arr1 (SetTable.grown arr1.size)
    have pf := relayAll_fits tb1 arr1 (SetTable.grown arr1.size)
    have pr := relayAll_ris tb1 arr1 (SetTable.grown arr1.size)
    have pl := relayAll_led tb1 arr1 (SetTable.grown arr1.size)
    revert pm pf pr pl
    generalize relayAll tb1 arr1 (SetTable.grown arr1.size) = rel
    obtain ⟨arr2, tb2, gave⟩ := rel
    intro pm pf pr pl
    dsimp only at pm pf pr pl ⊢
    have p2 : (arr2.toList.map txOf).Perm L := (pm.map txOf).trans p1
    have bs2 : arr2.size < scanBound := by rw [tx_size p2]; exact b1
    refine wpAny_bind (hgv _ _ _ ?_)
    refine wpAny_bind (wpAny_storeSet_of e1 rfl ?_ (fits_of_scanBound bs2))
    have e2 := store_at (es' := arr2) (t' := tb2) e1 rfl
    refine wpAny_pure (q _ (sb.trans (Heap.SameBut.update _ a _)) ?_)
    refine ⟨_, arr2, _, tb2, e2, ex, rfl, fun e m => g1 e (pm.mem_iff.mp m), p2, n1, b1, pf, pr, ?_⟩
    exact l1.imp id fun z => pl.trans z
  · rw [if_neg c]
    exact wpAny_pure (q _ sb ⟨_, arr1, _, tb1, e1, ex, rfl, g1, p1, n1, b1, f1, r1, l1⟩)
/-- one text more -/
theorem tx_add {a : Addr} {L : List Str} {x : Str} {u : Tok} {Q : Bool → Shared → Prop} (t : TxS w s.heap a L) (room : L.length + 1 < scanBound)
    (q1 : x ∈ L → Q false s) (q2 : x ∉ L → ∀ g, Heap.SameBut a s.heap g → TxS w g a (x :: L) → Q true { s with heap := g }) :
    wpAny (model P w) A (setAddHashed a (.str x u) ((tk_ P w).hash x)) Q E s := by
  obtain ⟨ob, arr, ep, tb, e0, ex, ed, g, p, n, b, f, r, l⟩ := t
  have hx : (tk_ P w).is x (.str x u) = true := PySem.strKind_is P w x u
  have hs : (Value.str x u).scannable = true := rfl
  have bs : arr.size < scanBound := by rw [tx_size p]; exact b
  have el : ElemsOf (tk_ P w) arr.toList := tx_kinds g
  have mem : x ∈ L ↔ ∃ e ∈ arr.toList, (tk_ P w).is x e.2 = true := by
    rw [← p.mem_iff, List.mem_map]
    exact ⟨fun ⟨e, m, h⟩ => ⟨e, m, (tx_is (g e m) x).2 h⟩, fun ⟨e, m, h⟩ => ⟨e, m, (tx_is (g e m) x).1 h⟩⟩
  unfold setAddHashed setAddHashedIn
  refine wpAny_holding (wpAny_bind (wpAny_setState_of e0 ed f ?_))
  dsimp only
  rw [byScan_of hs bs el]
  simp only [↓reduceIte]
  unfold setAddByScan
  refine wpAny_bind ?_
  refine wpAny_bind (wpAny_rule ?_)
  refine wpAny_bind (wpAny_setScan_of hx e0 ed f el ?_)
  cases fi : List.findIdx? (fun e => (tk_ P w).is x e.2) arr.toList with
  | some j =>
    dsimp only
    obtain ⟨hj, pj, _⟩ := List.findIdx?_eq_some_iff_getElem.mp fi
    exact wpAny_pure (wpAny_pure (q1 (mem.2 ⟨_, List.getElem_mem hj, pj⟩)))
  | none =>
    dsimp only
    have nx : x ∉ L := fun m => by
      obtain ⟨e, m2, h⟩ := mem.1 m
      have z := List.findIdx?_eq_none_iff.mp fi e m2
      rw [h] at z
      cases z
    have gw : ∀ (c : Bool) {s1 : Shared} {R : Unit → Shared → Prop}, R () s1 → wpAny (model P w) A (match c with | true => rule "set.scan.the-table-gave-way" | false => pure ()) R E s1 := fun c s1 R h => by
      cases c
      · exact wpAny_pure h
      · exact wpAny_rule h
    have pm := layNew_perm tb arr ((tk_ P w).hash x) (.str x u)
    have pf := layNew_fits tb arr ((tk_ P w).hash x) (.str x u)
    have pr := layNew_ris tb arr ((tk_ P w).hash x) (.str x u) r
    have pl := layNew_led tb arr ((tk_ P w).hash x) (.str x u)
    revert pm pf pr pl
    generalize layNew tb arr ((tk_ P w).hash x) (.str x u) = new
    obtain ⟨arr1, tb1, dm, gave⟩ := new
    intro pm pf pr pl
    dsimp only at pm pf pr pl ⊢
    rw [Array.toList_push] at pm
    have pc : arr1.toList.Perm (((tk_ P w).hash x, Value.str x u) :: arr.toList) := pm.trans (List.perm_append_singleton _ _)
    have p1 : (arr1.toList.map txOf).Perm (x :: L) := (pc.map txOf).trans (p.cons x)
    have g1 : ∀ e ∈ arr1.toList, TxE w e := fun e m => by
      rcases List.mem_cons.mp (pc.mem_iff.mp m) with z | z
      · exact ⟨x, u, by rw [z], by rw [z]; rfl⟩
      · exact g e z
    have n1 : (x :: L).Nodup := List.nodup_cons.mpr ⟨nx, n⟩
    have b1 : (x :: L).length < scanBound := room
    have l1 : w.params.followText "set-order" = true ∨ tb1.led = true := l.imp id fun z => pl.trans z
    have fin := fun g' sb r' => q2 nx g' sb r'
    refine wpAny_bind (gw _ ?_)
    split
    · refine wpAny_bind ?_
      rw [hashByValue_scannable 8 hs]
      refine wpAny_pure ?_
      refine tx_store ?_ e0 ex ed g1 p1 n1 b1 ?_ ?_ ?_ ?_
      · intro c s1 R h; exact gw c h
      · first | (split <;> first | exact pf | exact SetTable.fits_plain_off pf) | exact pf
      · first | (split <;> exact pr) | exact pr
      · first | (split <;> exact l1) | exact l1
      · intro g' sb r'; dsimp only; exact wpAny_pure (fin g' sb r')
    · refine wpAny_bind (wpAny_pure ?_)
      simp only [↓reduceIte]
      refine tx_store ?_ e0 ex ed g1 p1 n1 b1 pf pr l1 ?_
      · intro c s1 R h; exact gw c h
      · intro g' sb r'; dsimp only; exact wpAny_pure (fin g' sb r')
/-- the set takes all of a list -/
theorem tx_loop {I : Addr} {fp wr : List Addr} {G : Array GenState → Array GenState → Prop} {n : Nat} {Pv : Nat → Value → Prop} {St : Nat → Shared → Prop} {R : Result → Shared → Prop}
    (W : WalksS P w A.in1 I fp wr G n Pv St) (a : Addr) (na : a ∉ fp) (xs : List Str) (hn : n = xs.length) (room : xs.length + 1 < scanBound)
    (pv : ∀ i v, Pv i v → ∃ x u, xs[i]? = some x ∧ v = .str x u) :
    ∀ (k i : Nat) (s : Shared), n = i + k → St i s →
      (∃ L, L.length ≤ i ∧ (∀ x, x ∈ L ↔ x ∈ xs.take i) ∧ TxS w s.heap a L) →
      (∀ s' L, Moved (a :: wr) G s s' → L.length ≤ n → (∀ x, x ∈ L ↔ x ∈ xs) → TxS w s'.heap a L → R (.ok (.ret .none)) s') →
      codeAny (model P w) A (.builtin "set.update.loop" ⟨[.ref a, .ref I], []⟩) R s := by
  have nw : a ∉ wr := fun z => na (W.sub _ z)
  have sub : ∀ b ∈ wr, b ∈ a :: wr := fun b m => List.mem_cons_of_mem _ m
  intro k
  induction k with
  | zero =>
    rintro i s hk st ⟨L, l1, l2, t⟩ q
    have e : n = i := by omega
    subst e
    refine codeAny_builtin F.entry_set_update_loop ?_
    rw [Around.under_plainId F.plain_set_update_loop _]
    show wpAny _ A.in1 (pyNext (.ref I) >>= _) _ _ s
    refine wpAny_bind (W.done s _ _ st fun s' m => ?_)
    show wpAny _ A.in1 (ret Value.none) _ _ s'
    refine wpAny_pure (q s' L (m.mono sub) l1 (fun x => ?_) (t.to fun o h => m.heap a o nw h))
    rw [l2, List.take_of_length_le (by omega)]
  | succ k ih =>
    rintro i s hk st ⟨L, l1, l2, t⟩ q
    have lt : i < n := by omega
    refine codeAny_builtin F.entry_set_update_loop ?_
    rw [Around.under_plainId F.plain_set_update_loop _]
    show wpAny _ A.in1 (pyNext (.ref I) >>= _) _ _ s
    refine wpAny_bind (W.item i s _ _ lt st fun v s' hp st' m => ?_)
    obtain ⟨x, u, hx, rfl⟩ := pv i v hp
    have t' := t.to (g := s'.heap) fun o h => m.heap a o nw h
    have l3 : ∀ z, z ∈ xs.take (i + 1) ↔ z ∈ xs.take i ∨ z = x := fun z => by
      rw [List.take_add_one, hx, List.mem_append]
      exact or_congr Iff.rfl (by simp)
    have next : ∀ (g : Heap) (M : List Str), (∀ b o, b ≠ a → s'.heap.get? b = some o → g.get? b = some o) → M.length ≤ i + 1 → (∀ z, z ∈ M ↔ z ∈ xs.take (i + 1)) → TxS w g a M →
        codeAny (model P w) A (.builtin "set.update.loop" ⟨[.ref a, .ref I], []⟩) R { s' with heap := g, toks := s'.toks + 1 } := fun g M k1 lm lz tm => by
      refine ih (i + 1) _ (by omega) (W.frame _ s' _ _ st' (Nat.le_succ _) fun b mb o e => ?_) ⟨M, lm, lz, tm⟩ fun s2 L2 m2 c1 c2 c3 => ?_
      · exact k1 b o (fun z => na (z ▸ mb)) e
      · refine q s2 L2 (Moved.trans W.gtrans ((m.mono sub).then_heap (Nat.le_succ _) fun b o nb e => ?_) m2) c1 c2 c3
        exact k1 b o (fun z => nb (by rw [z]; exact List.mem_cons_self)) e
    show wpAny _ A.in1 (holding [Value.str x u] (setAdd a (.str x u)) >>= _) _ _ s'
    refine wpAny_bind (wpAny_holding ?_)
    unfold setAdd
    refine wpAny_holding ?_
    refine wpAny_bind ((tk_ P w).pyHash (k := x) (PySem.strKind_is P w x u) ?_)
    refine tx_add (s := { s' with toks := s'.toks + 1 }) t' (by omega) (fun mx => ?_) fun nx g sb tn => ?_
    · refine wpAny_pure ⟨plainId_quiet F.plain_set_update_loop _, next s'.heap L (fun b o _ e => e) (by omega) (fun z => ?_) t'⟩
      rw [l3, ← l2 z]
      exact ⟨.inl, fun h => h.elim id fun e => e ▸ mx⟩
    · refine wpAny_pure ⟨plainId_quiet F.plain_set_update_loop _, next g (x :: L) (fun b o nb e => by rw [sb.2 b nb]; exact e) (by rw [List.length_cons]; omega) (fun z => ?_) tn⟩
      rw [l3, ← l2 z, List.mem_cons]
      exact Or.comm
theorem strs_get : ∀ {us : List Value} {xs : List Str}, StrsAre us xs → ∀ (i : Nat) (v : Value), us[i]? = some v → ∃ x u, xs[i]? = some x ∧ v = .str x u
  | _, _, .nil, i, v, h => by simp at h
  | _, _, .cons n t r, 0, v, h => ⟨n, t, rfl, by simpa using h.symm⟩
  | _, _, .cons n t r, i + 1, v, h => strs_get r i v (by simpa using h)
/-- set(xs) -/
theorem tx_of {l : Addr} {its : Array Value} (xs : List Str) {Q : Value → Shared → Prop}
    (h0 : A.handled = none) (isl : s.heap.IsList l its) (hin : StrsAre its.toList xs) (small : xs.length + 1 < scanBound)
    (q : ∀ (g : Heap) (tk : Nat) (L : List Str), TxS w g s.heap.objs.size L → L.length ≤ xs.length → (∀ x, x ∈ L ↔ x ∈ xs) →
      (∀ b o, s.heap.get? b = some o → g.get? b = some o) → Q (.ref s.heap.objs.size) { s with heap := g, toks := tk }) :
    wpAny (model P w) A (call (.type "set") [.ref l]) Q E s := by
  have size : its.size = xs.length := by rw [← StrsAre.len_eq hin]; exact Array.length_toList.symm
  obtain ⟨_, _, mro⟩ := F.called_set.mro
  have made := F.called_set.made; have sub := F.called_set.sub
  have e1 := F.called_set.notType; have e2 := F.called_set.canCreate
  have e3 := F.typeCall_set_1 (.ref l)
  refine wpAny_call (codeAny_of_tree ?_)
  show wpAny _ _ (callAny (.type "set") _) _ _ _
  refine wpAny_pure ⟨Code.quiet_builtin _ (by decide +kernel), codeAny_builtin F.entry_type_call ?_⟩
  rw [Around.under_plain (weight_type_call_type "set" [.ref l] []) rfl]
  repeat (any_goals (first | assumption | wp_step))

  refine codeAny_mono (code_set_led1 (.ref l) (E := E)
    (Q₁ := fun r t => r = .ref s.heap.objs.size ∧ t = { s with heap := s.heap.push (emptyS w) }) ⟨rfl, rfl⟩) fun r t hr => ?_
  rcases r with e | fl
  · exact hr
  cases fl with
  | ret obj =>
    obtain ⟨rfl, rfl⟩ := hr
    have at1 : (s.heap.push (emptyS w)).get? s.heap.objs.size = some (emptyS w) := Heap.get?_push_size _ rfl
    have ty1 : Shared.TypeIs { s with heap := s.heap.push (emptyS w) } (.ref s.heap.objs.size) "set" := ⟨_, at1, rfl⟩
    have look := F.called_set.init.lookup
    have bind := F.called_set.init.bind (.ref s.heap.objs.size)
    repeat (any_goals (first | assumption | wp_step))

    refine codeAny_mono (codeAny_call_builtin
      (R := wants (fun r t => r = .none ∧ ∃ g tk L, t = { s with heap := g, toks := tk } ∧ TxS w g s.heap.objs.size L ∧ L.length ≤ xs.length ∧ (∀ x, x ∈ L ↔ x ∈ xs) ∧
        (∀ b o, s.heap.get? b = some o → g.get? b = some o)) E)
      F.called_set.init.plain F.entry_set_init (check_set_init_1 ty1 ?_)) fun r2 t2 hr2 => ?_
    · have isl1 : (s.heap.push (emptyS w)).IsList l its := isl.push _
      have d1 := F.sub_list_set
      have d2 := F.sub_list_frozenset
      have nd : (Value.type "list" == Value.type "dict") = false := by decide
      obtain ⟨ol, hol, hcl, nl, hdl⟩ := id isl
      obtain ⟨oc, od, odt, osl⟩ := ol
      simp only at hcl hdl
      subst hcl; subst hdl
      have hol1 := Heap.get?_push_of_some (emptyS w) hol
      unfold Builtin.«set.__init__» noKeywords Builtin.Frozenset.updateFrom
      generalize hPI : pyIter = PI
      wp_walk
      subst hPI

      refine wpAny_pyIter_list isl1 ?_
      refine wpAny_bind (wpAny_runValue ?_)
      have lt : l < s.heap.objs.size := Heap.lt_size hol
      have h3 : A.in1.in1.in1.handled = none := by simp [h0]
      have sz : (s.heap.push (emptyS w)).objs.size = s.heap.objs.size + 1 := Heap.size_push ..
      have n1 : l ≠ (s.heap.push (emptyS w)).objs.size := by rw [sz]; exact Nat.ne_of_lt (Nat.lt_succ_of_lt lt)
      have n2 : s.heap.objs.size ∉ [(s.heap.push (emptyS w)).objs.size, l] := by
        rw [sz]
        intro m
        rcases List.mem_cons.mp m with z | z
        · exact Nat.succ_ne_self _ z.symm
        · exact Nat.ne_of_gt lt (List.mem_singleton.mp z)
      have val : ∀ (i : Nat) (v : Value), its[i]? = some v → ∃ x u, xs[i]? = some x ∧ v = .str x u := fun i v hv => by
        exact strs_get hin i v (by rw [Array.getElem?_toList]; exact hv)
      refine tx_loop ((Walks.list h3 _ l n1 its).toS) s.heap.objs.size n2 xs size small val
        its.size 0 _ (Nat.zero_add _).symm
        ⟨⟨_, Heap.get?_push_size _ rfl, rfl, rfl⟩, isl1.push _⟩
        ⟨[], Nat.le_refl 0, by simp, _, #[], 0, _, Heap.get?_push_of_some _ at1, ?_, rfl, by simp, .nil, .nil, ?_, ?_, ?_, ?_⟩ fun t' L mv le mm R => ?_
      rotate_right
      · obtain ⟨g, g2, dr, tk, os⟩ := t'
        have eg : g2 = s.gens := mv.gens
        have ed : dr = s.drawn := mv.drawn
        have eo : os = s.os := mv.os
        subst eg ed eo
        rw [size] at le
        show wpAny _ _ _ _ _ _
        refine wpAny_pure ?_
        show wpAny _ _ (ret Value.none) _ _ _
        refine wpAny_pure ⟨rfl, g, tk, L, rfl, R, le, mm, fun b o e => ?_⟩
        have lb : b < s.heap.objs.size := Heap.lt_size e
        refine mv.heap b o (fun m => ?_) (Heap.get?_push_of_some _ (Heap.get?_push_of_some _ e))
        rcases List.mem_cons.mp m with z | z
        · exact Nat.ne_of_lt lb z
        · have := List.mem_singleton.mp z
          rw [sz] at this
          exact Nat.ne_of_lt (Nat.lt_succ_of_lt lb) this
      · exact ⟨rfl, rfl, rfl⟩
      · exact (by decide : 0 < scanBound)
      · rfl
      · exact List.Pairwise.nil
      · show _ ∨ (!w.params.followText "set-order") = true
        cases w.params.followText "set-order"
        · exact .inr rfl
        · exact .inl rfl
    · rcases r2 with e | fl2
      · exact hr2
      cases fl2 with
      | ret r =>
        obtain ⟨rfl, g, tk, L, rfl, h1, h2, h3, h4⟩ := hr2
        repeat (any_goals (first | assumption | wp_step))
        exact q _ _ _ h1 h2 h3 h4
      | _ => exact hr2.elim
  | _ => exact hr.elim
/-- sorted(it) -/
theorem tx_sorted {a : Addr} {L : List Str} {Q : Value → Shared → Prop} (t : TxS w s.heap a L) (h0 : A.handled = none) (h64 : L.length < 64)
    (q : ∀ s' p (out : Array Value) (c : Nat) (ys : List Str), (∀ b o, s.heap.get? b = some o → s'.heap.get? b = some o) → s'.gens = s.gens → s'.os = s.os → s.heap.objs.size ≤ p →
      s'.heap.get? p = some (seqObj "list" out c) → StrsAre out.toList ys → ys.Perm L → PyProof.Rows.sortedS ys = true → Q (.ref p) s') :
    wpAny (model P w) A (call (.builtin "sorted") [.ref a]) Q E s := by
  obtain ⟨ob, arr, ep, tb, e0, ex, ed, g, p, n, b, f, r, l⟩ := t
  have bs : arr.size < scanBound := by rw [tx_size p]; exact b
  refine Calls.call_function_entry kind_sorted plain_sorted entry_sorted (args_sorted1 _) ?_
  unfold Builtin.«sorted»
  refine wpAny_bind (m := checkCount "sorted" 1 1 _) (wpAny_pure ?_)
  refine wpAny_bind (collect_set (A := A.in1) h0 ⟨ob, e0, ex.1, ed⟩ f bs r l fun s1 vs k1 hz g1 o1 pm => ?_)
  have vl : vs.length = L.length := by rw [pm.length_eq, List.length_map, Array.length_toList, tx_size p]
  have mk : ∀ us : List Value, (∀ v ∈ us, ∃ x u, v = Value.str x u) → StrsAre us (us.map fun v => match v with | .str x _ => x | _ => Str.empty) := fun us => by
    induction us with
    | nil => intro _; exact .nil
    | cons v us ih =>
      intro hv
      obtain ⟨x, u, rfl⟩ := hv v List.mem_cons_self
      exact .cons x u (ih fun z m => hv z (List.mem_cons_of_mem _ m))
  have hS := mk vs fun v hv => by
    obtain ⟨e, he, z⟩ := List.mem_map.mp (pm.mem_iff.mp hv)
    obtain ⟨x, u, h1, _⟩ := g e he
    exact ⟨x, u, z ▸ h1⟩
  have pk := pm.map fun v : Value => match v with | .str x _ => x | _ => Str.empty
  rw [List.map_map] at pk
  refine wpAny_bind (wpAny_newList ?_ (by rw [vl, sizeLine_eq]; omega))
  have hoL : (s1.heap.push (seqObj "list" vs.toArray 0)).get? s1.heap.objs.size = some (seqObj "list" vs.toArray 0) := Heap.get?_push_size _ rfl
  refine wpAny_bind (wpAny_holding (wpAny_call_entry slot_list_sort ⟨_, hoL, rfl⟩ entry_list_sort
    (list_sort_treeK strKind_oneLt hoL hS.keysOf (fun v₁ v₂ rest e => keyKind_strs (by rw [← e]; exact hS)) (by rw [vl]; exact h64) fun st hp hs => ⟨_, rfl, ?_⟩)
    (args_list_sort _)))
  obtain ⟨ys, y1, y2, y3⟩ := sorted_out_str hS hp hs
  obtain ⟨c, hc⟩ := sortedHeap_at (vs := vs) (out := (arrOf st).map (·.2)) hoL
  refine wpAny_pure ⟨_, rfl, q _ s1.heap.objs.size _ c ys (fun b' u e => ?_) g1 o1 hz hc y1 ((y2.trans pk).trans p) y3⟩
  have e2 := k1 b' u e
  have lt := Heap.lt_size e2
  show (sortedHeap (s1.heap.push (seqObj "list" vs.toArray 0)) s1.heap.objs.size vs _).get? b' = some u
  rw [sortedHeap_old (Nat.ne_of_lt lt) (by rw [size_push']; exact Nat.lt_succ_of_lt lt)]
  exact Heap.get?_push_of_some _ e2
end
/-- the set of texts at a -/
def TxO (w : World) (a : Addr) (L : List Str) : HO := .ext fun h => TxS w h a L
def rSetT (K : PySem.W.Frag) (w : World) : List V → Hp → VK → Prop := fun xs H Q => ∃ (p : Addr) (ns : List Str), xs = [.ref p] ∧ SqL K H p (ns.map V.str) ∧ ns.length ≤ 1000 ∧
  ∀ a L, H a = none → L.length ≤ ns.length → (∀ x, x ∈ L ↔ x ∈ ns) → Q (.ref a) (upd H a (TxO w a L))
theorem cr_setT {X : Cx} (hc : X.calm = true) : CallR X (.type "set") (rSetT X.K X.w) := by
  intro pins s σ H xs us Q I r h
  obtain ⟨p, ns, rfl, hq, hl, q⟩ := h
  obtain ⟨u, rfl, rx⟩ := vals1 r
  cases rx
  obtain ⟨its, rv, pl, hz⟩ := I.list hq
  refine tx_of ns (I.ok.hd hc) pl.isList (by simpa using Vals.strs rv) (by unfold scanBound; omega) fun g tk L R le mm k => ?_
  have ob : ObjOk X.prog X.w (upd H s.heap.objs.size (TxO X.w s.heap.objs.size L)) g s.heap.objs.size (TxO X.w s.heap.objs.size L) := by
    have ⟨o, _, _, _, ho, _⟩ := R
    exact ⟨R, ⟨o, ho⟩, fun h1 h2 p k => TxS.to p k⟩
  exact ⟨.ref s.heap.objs.size, _, I.laid (t' := tk) k (Nat.le_refl _) ob, rfl, q _ L (I.hok.fresh (Nat.le_refl _)) le mm⟩
end Vf

namespace Vf
open PySem L2 PySem.Spec PyProof.Rows He
def rSortT (w : World) : List V → Hp → VK → Prop := fun vs H Q => ∃ (a : Addr) (L : List Str), vs = [V.ref a] ∧ H a = some (TxO w a L) ∧ L.length < 64 ∧
  ∀ (ys : List Str) (p : Addr), L.Nodup → ys.Perm L → PyProof.Rows.sortedS ys = true → H p = none → Q (.ref p) (upd H p (.lst (ys.map V.str)))
theorem cr_sortedT {X : Cx} (hc : X.calm = true) : CallR X (.builtin "sorted") (rSortT X.w) := by
  intro pins s σ H vs us Q I r h
  obtain ⟨a, L, rfl, ha, h64, q⟩ := h
  have R : TxS X.w s.heap a L := (I.hok a _ ha).1
  have nd : L.Nodup := let ⟨_, _, _, _, _, _, _, _, _, n, _⟩ := R; n
  rw [Vals.ref1 r]
  refine tx_sorted R (I.ok.hd hc) h64 fun s' p out c ys k g o hp hg hi hm hs => ?_
  have len : (ys.map V.str).length ≤ sizeLine := by rw [List.length_map, hm.length_eq, sizeLine_eq]; omega
  have hn : H p = none := I.hok.fresh hp
  have J : Inv X pins σ (upd H p (.lst (ys.map V.str))) { s with heap := s'.heap, gens := s'.gens, drawn := s'.drawn, toks := s'.toks } :=
    I.call (ch := []) (Un.laid k hp hn) (I.hok.laid k hp ⟨len, out.toList, c, vals_of_strs hi, hg⟩) (by rw [g]; exact I.bare) (fun _ z => nomatch z)
  have e : s' = { s with heap := s'.heap, gens := s'.gens, drawn := s'.drawn, toks := s'.toks } := by
    obtain ⟨_, _, _, _, _⟩ := s'
    obtain ⟨_, _, _, _, _⟩ := s
    cases o
    rfl
  rw [e]
  exact ⟨.ref p, _, J, rfl, q ys p nd hm hs hn⟩
/-- xs.remove(y): the first equal one goes -/
def rRemD (K : PySem.W.Frag) : V → List V → Hp → VK → Prop := fun x vs H Q => ∃ (l : Addr) (y : V) (xs : List V) (d : PyData) (ds : List PyData) (j : Nat) (z : PyData), x = .ref l ∧ vs = [y] ∧ H l = some (.lst xs) ∧ DpAll K H xs ds ∧ Dp K H y d ∧
  SeqAt.shaped (.list ds) = true ∧ SeqAt.shaped d = true ∧ ds[j]? = some z ∧ PyData.eqv z d = true ∧ (∀ (m : Nat) (z' : PyData), m < j → ds[m]? = some z' → PyData.eqv z' d = false) ∧ Q .non (upd H l (.lst (xs.eraseIdx j)))
theorem mt_removeD {X : Cx} (hu : X.A.units + 65 < cLine) : MtM X "list.remove" (rRemD X.K) := by
  intro pins s σ H x vs v us Q I rx rv h
  obtain ⟨l, y, xs, d, ds, j, z, rfl, rfl, hH, hds, hy, sl, sd, hz, hzj, hno, q⟩ := h
  cases rx
  obtain ⟨uy, rfl, ry⟩ := rv.one
  obtain ⟨bs, r1⟩ := Dp.reads I d y uy hy ry
  obtain ⟨zl, its, n, r, hl, e⟩ := I.lstM hH
  obtain ⟨as, r2⟩ := Dp.readsAll I ds xs its hds r
  have can : PyData.canLayAll0 ds = true := SeqAt.canLay_of_shaped sl
  have rm : X.A.units + 1 + min (PyData.depthAll ds) d.depth < cLine := room_in_shaped sd hu
  have n1 : its.length = ds.length := SeqAt.ReadsAll.length ds its as r2
  have mp : its.map (SeqAt.readOf s.heap) = ds := SeqAt.readsAll_map ds its as can r2
  have jd : j < ds.length := (List.getElem?_eq_some_iff.mp hz).1
  have hj : j < its.toArray.size := by rw [List.size_toArray]; omega
  have see : ∀ (m : Nat) (hm : m < its.toArray.size) (z' : PyData), ds[m]? = some z' → SeqAt.readOf s.heap its.toArray[m] = z' := fun m hm z' e1 => by
    have hm2 : m < its.length := by rw [List.size_toArray] at hm; exact hm
    rw [← mp, List.getElem?_map, List.getElem?_eq_getElem hm2] at e1
    simpa using Option.some.inj e1
  have sl9 := sizeLine_eq
  refine call_meets PySem.F.slot_list_remove ⟨_, e, rfl⟩ PySem.F.entry_list_remove (PySem.F.args_list_remove_2 _ _)
    (SeqAt.list_removeAt l its.toArray n _ _ uy (fun u => PyData.eqv (SeqAt.readOf s.heap u) d) j hj ?_ ?_ (by rw [List.size_toArray]; omega))
    ⟨e, SeqAt.items_eqAt (vs := its.toArray) (show ReadsAll s.heap its.toArray.toList ds as from r2) r1 can (SeqAt.canLay_of_shaped sd) rm, ?_⟩
  · show PyData.eqv (SeqAt.readOf s.heap its.toArray[j]) d = true
    rw [see j hj z hz]; exact hzj
  · intro m hm lt
    have md : m < ds.length := by omega
    show PyData.eqv (SeqAt.readOf s.heap its.toArray[m]) d = false
    rw [see m hm _ (List.getElem?_eq_getElem md)]
    exact hno m _ lt (List.getElem?_eq_getElem md)
  · refine ⟨.non, _, I.lset (its' := its.eraseIdx j) (t' := s.toks) hH e ?_ (r.eraseIdx j) ?_, rfl, q⟩
    · show its.toArray.eraseIdxIfInBounds j = (its.eraseIdx j).toArray
      rw [List.eraseIdxIfInBounds_toArray]
    · have := len_erase xs j
      omega
end Vf
namespace Vf
open PySem L2 PySem.Spec PyProof.Rows He
theorem ePK (K : PySem.W.Frag) {X : Cx} (hu : X.A.units + 64 < cLine) (hK : X.K = K := by rfl) : OpR X (compareOp .Eq) (rEqP K) := hK ▸ op_eqP hu
theorem nPK (K : PySem.W.Frag) {X : Cx} (hu : X.A.units + 64 < cLine) (hK : X.K = K := by rfl) : OpR X (compareOp .NotEq) (rNeP K) := hK ▸ op_neP hu
end Vf

namespace Vk27
open PySem PySem.Spec PyProof.Rows L2 Vf
def topS (i : Nat) : Stmt := PySem.Challenge.pw_folderkin_k27_attics.main.body.getD i (.Pass ⟨0, 0, 0, 0⟩)
abbrev s_wall : Stmt := topS 0
abbrev N_wall : List Str := ["k"]
theorem sc_wall : FnScope N_wall ["k"] (defScope s_wall) := ⟨rfl, rfl, rfl, by decide +kernel, rfl, by decide +kernel, by decide +kernel⟩
abbrev s_Rule___init__ : Stmt := inClass (topS 2) 0
abbrev N_Rule___init__ : List Str := ["self", "each", "total"]
theorem sc_Rule___init__ : FnScope N_Rule___init__ ["self", "each", "total"] (defScope s_Rule___init__) := ⟨rfl, rfl, rfl, by decide +kernel, rfl, by decide +kernel, by decide +kernel⟩
abbrev s_Rule___eq__ : Stmt := inClass (topS 2) 1
abbrev N_Rule___eq__ : List Str := ["self", "other"]
theorem sc_Rule___eq__ : FnScope N_Rule___eq__ ["self", "other"] (defScope s_Rule___eq__) := ⟨rfl, rfl, rfl, by decide +kernel, rfl, by decide +kernel, by decide +kernel⟩
abbrev s_keep : Stmt := topS 3
abbrev N_keep : List Str := ["store", "rule", "name", "vector", "content"]
theorem sc_keep : FnScope N_keep ["store", "rule", "name", "vector", "content"] (defScope s_keep) := ⟨rfl, rfl, rfl, by decide +kernel, rfl, by decide +kernel, by decide +kernel⟩
abbrev s_tidy : Stmt := topS 4
abbrev N_tidy : List Str := ["store", "rule", "rows", "gone", "names", "name", "indexes", "moved", "index", "row"]
theorem sc_tidy : FnScope N_tidy ["store", "rule"] (defScope s_tidy) := ⟨rfl, rfl, rfl, by decide +kernel, rfl, by decide +kernel, by decide +kernel⟩
abbrev s_indexes_of : Stmt := topS 5
abbrev N_indexes_of : List Str := ["rows", "name", "index", "row"]
theorem sc_indexes_of : FnScope N_indexes_of ["rows", "name"] (defScope s_indexes_of) := ⟨rfl, rfl, rfl, by decide +kernel, rfl, by decide +kernel, by decide +kernel⟩
abbrev s_bytes_of : Stmt := topS 6
abbrev N_bytes_of : List Str := ["rows", "row"]
theorem sc_bytes_of : FnScope N_bytes_of ["rows"] (defScope s_bytes_of) := ⟨rfl, rfl, rfl, by decide +kernel, rfl, by decide +kernel, by decide +kernel⟩
abbrev s_let_go : Stmt := topS 7
abbrev N_let_go : List Str := ["store", "name", "vector", "indexes", "moved", "index", "row"]
theorem sc_let_go : FnScope N_let_go ["store", "name", "vector"] (defScope s_let_go) := ⟨rfl, rfl, rfl, by decide +kernel, rfl, by decide +kernel, by decide +kernel⟩
abbrev s_kept : Stmt := topS 8
abbrev N_kept : List Str := ["store", "name", "row"]
theorem sc_kept : FnScope N_kept ["store", "name"] (defScope s_kept) := ⟨rfl, rfl, rfl, by decide +kernel, rfl, by decide +kernel, by decide +kernel⟩
abbrev s_size_of : Stmt := topS 9
abbrev N_size_of : List Str := ["store"]
theorem sc_size_of : FnScope N_size_of ["store"] (defScope s_size_of) := ⟨rfl, rfl, rfl, by decide +kernel, rfl, by decide +kernel, by decide +kernel⟩
abbrev s_FolderkinError___init__ : Stmt := inClass (topS 11) 0
abbrev N_FolderkinError___init__ : List Str := ["self", "place"]
theorem sc_FolderkinError___init__ : FnScope N_FolderkinError___init__ ["self", "place"] (defScope s_FolderkinError___init__) := ⟨rfl, rfl, rfl, by decide +kernel, rfl, by decide +kernel, by decide +kernel⟩
abbrev s_Store___init__ : Stmt := inClass (topS 14) 0
abbrev N_Store___init__ : List Str := ["self", "files", "log", "name", "content", "time"]
theorem sc_Store___init__ : FnScope N_Store___init__ ["self", "files", "log"] (defScope s_Store___init__) := ⟨rfl, rfl, rfl, by decide +kernel, rfl, by decide +kernel, by decide +kernel⟩
abbrev s_Store_set_budget : Stmt := inClass (topS 14) 1
abbrev N_Store_set_budget : List Str := ["self", "count"]
theorem sc_Store_set_budget : FnScope N_Store_set_budget ["self", "count"] (defScope s_Store_set_budget) := ⟨rfl, rfl, rfl, by decide +kernel, rfl, by decide +kernel, by decide +kernel⟩
abbrev s_Store_done : Stmt := inClass (topS 14) 2
abbrev N_Store_done : List Str := ["self"]
theorem sc_Store_done : FnScope N_Store_done ["self"] (defScope s_Store_done) := ⟨rfl, rfl, rfl, by decide +kernel, rfl, by decide +kernel, by decide +kernel⟩
abbrev s_Store__count_write : Stmt := inClass (topS 14) 3
abbrev N_Store__count_write : List Str := ["self"]
theorem sc_Store__count_write : FnScope N_Store__count_write ["self"] (defScope s_Store__count_write) := ⟨rfl, rfl, rfl, by decide +kernel, rfl, by decide +kernel, by decide +kernel⟩
abbrev s_Store_names : Stmt := inClass (topS 14) 4
abbrev N_Store_names : List Str := ["self"]
theorem sc_Store_names : FnScope N_Store_names ["self"] (defScope s_Store_names) := ⟨rfl, rfl, rfl, by decide +kernel, rfl, by decide +kernel, by decide +kernel⟩
abbrev s_Store_read : Stmt := inClass (topS 14) 5
abbrev N_Store_read : List Str := ["self", "name", "content", "time"]
theorem sc_Store_read : FnScope N_Store_read ["self", "name"] (defScope s_Store_read) := ⟨rfl, rfl, rfl, by decide +kernel, rfl, by decide +kernel, by decide +kernel⟩
abbrev s_Store_write : Stmt := inClass (topS 14) 6
abbrev N_Store_write : List Str := ["self", "name", "content", "time"]
theorem sc_Store_write : FnScope N_Store_write ["self", "name", "content", "time"] (defScope s_Store_write) := ⟨rfl, rfl, rfl, by decide +kernel, rfl, by decide +kernel, by decide +kernel⟩
abbrev s_Store_remove : Stmt := inClass (topS 14) 7
abbrev N_Store_remove : List Str := ["self", "name"]
theorem sc_Store_remove : FnScope N_Store_remove ["self", "name"] (defScope s_Store_remove) := ⟨rfl, rfl, rfl, by decide +kernel, rfl, by decide +kernel, by decide +kernel⟩
abbrev s_Store_rename : Stmt := inClass (topS 14) 8
abbrev N_Store_rename : List Str := ["self", "old", "new"]
theorem sc_Store_rename : FnScope N_Store_rename ["self", "old", "new"] (defScope s_Store_rename) := ⟨rfl, rfl, rfl, by decide +kernel, rfl, by decide +kernel, by decide +kernel⟩
abbrev s_Store_temp_names : Stmt := inClass (topS 14) 9
abbrev N_Store_temp_names : List Str := ["self"]
theorem sc_Store_temp_names : FnScope N_Store_temp_names ["self"] (defScope s_Store_temp_names) := ⟨rfl, rfl, rfl, by decide +kernel, rfl, by decide +kernel, by decide +kernel⟩
abbrev s_Store_temp : Stmt := inClass (topS 14) 10
abbrev N_Store_temp : List Str := ["self", "name"]
theorem sc_Store_temp : FnScope N_Store_temp ["self", "name"] (defScope s_Store_temp) := ⟨rfl, rfl, rfl, by decide +kernel, rfl, by decide +kernel, by decide +kernel⟩
abbrev s_Store_append_temp : Stmt := inClass (topS 14) 11
abbrev N_Store_append_temp : List Str := ["self", "name", "data"]
theorem sc_Store_append_temp : FnScope N_Store_append_temp ["self", "name", "data"] (defScope s_Store_append_temp) := ⟨rfl, rfl, rfl, by decide +kernel, rfl, by decide +kernel, by decide +kernel⟩
abbrev s_Store_cut_temp : Stmt := inClass (topS 14) 12
abbrev N_Store_cut_temp : List Str := ["self", "name", "count"]
theorem sc_Store_cut_temp : FnScope N_Store_cut_temp ["self", "name", "count"] (defScope s_Store_cut_temp) := ⟨rfl, rfl, rfl, by decide +kernel, rfl, by decide +kernel, by decide +kernel⟩
abbrev s_Store_place : Stmt := inClass (topS 14) 13
abbrev N_Store_place : List Str := ["self", "name", "time"]
theorem sc_Store_place : FnScope N_Store_place ["self", "name", "time"] (defScope s_Store_place) := ⟨rfl, rfl, rfl, by decide +kernel, rfl, by decide +kernel, by decide +kernel⟩
abbrev s_Store_attic : Stmt := inClass (topS 14) 14
abbrev N_Store_attic : List Str := ["self", "name", "vector", "content"]
theorem sc_Store_attic : FnScope N_Store_attic ["self"] (defScope s_Store_attic) := ⟨rfl, rfl, rfl, by decide +kernel, rfl, by decide +kernel, by decide +kernel⟩
abbrev s_Store_attic_put : Stmt := inClass (topS 14) 15
abbrev N_Store_attic_put : List Str := ["self", "name", "vector", "content"]
theorem sc_Store_attic_put : FnScope N_Store_attic_put ["self", "name", "vector", "content"] (defScope s_Store_attic_put) := ⟨rfl, rfl, rfl, by decide +kernel, rfl, by decide +kernel, by decide +kernel⟩
abbrev s_Store_attic_drop : Stmt := inClass (topS 14) 16
abbrev N_Store_attic_drop : List Str := ["self", "index"]
theorem sc_Store_attic_drop : FnScope N_Store_attic_drop ["self", "index"] (defScope s_Store_attic_drop) := ⟨rfl, rfl, rfl, by decide +kernel, rfl, by decide +kernel, by decide +kernel⟩
abbrev s_Store_log : Stmt := inClass (topS 14) 17
abbrev N_Store_log : List Str := ["self"]
theorem sc_Store_log : FnScope N_Store_log ["self"] (defScope s_Store_log) := ⟨rfl, rfl, rfl, by decide +kernel, rfl, by decide +kernel, by decide +kernel⟩
abbrev s_Store_log_size : Stmt := inClass (topS 14) 18
abbrev N_Store_log_size : List Str := ["self"]
theorem sc_Store_log_size : FnScope N_Store_log_size ["self"] (defScope s_Store_log_size) := ⟨rfl, rfl, rfl, by decide +kernel, rfl, by decide +kernel, by decide +kernel⟩
abbrev s_Store_new_log : Stmt := inClass (topS 14) 19
abbrev N_Store_new_log : List Str := ["self"]
theorem sc_Store_new_log : FnScope N_Store_new_log ["self"] (defScope s_Store_new_log) := ⟨rfl, rfl, rfl, by decide +kernel, rfl, by decide +kernel, by decide +kernel⟩
abbrev s_Store_log_append : Stmt := inClass (topS 14) 20
abbrev N_Store_log_append : List Str := ["self", "data"]
theorem sc_Store_log_append : FnScope N_Store_log_append ["self", "data"] (defScope s_Store_log_append) := ⟨rfl, rfl, rfl, by decide +kernel, rfl, by decide +kernel, by decide +kernel⟩
abbrev s_Store_new_log_append : Stmt := inClass (topS 14) 21
abbrev N_Store_new_log_append : List Str := ["self", "data"]
theorem sc_Store_new_log_append : FnScope N_Store_new_log_append ["self", "data"] (defScope s_Store_new_log_append) := ⟨rfl, rfl, rfl, by decide +kernel, rfl, by decide +kernel, by decide +kernel⟩
abbrev s_Store_drop_new_log : Stmt := inClass (topS 14) 22
abbrev N_Store_drop_new_log : List Str := ["self"]
theorem sc_Store_drop_new_log : FnScope N_Store_drop_new_log ["self"] (defScope s_Store_drop_new_log) := ⟨rfl, rfl, rfl, by decide +kernel, rfl, by decide +kernel, by decide +kernel⟩
abbrev s_Store_switch_log : Stmt := inClass (topS 14) 23
abbrev N_Store_switch_log : List Str := ["self"]
theorem sc_Store_switch_log : FnScope N_Store_switch_log ["self"] (defScope s_Store_switch_log) := ⟨rfl, rfl, rfl, by decide +kernel, rfl, by decide +kernel, by decide +kernel⟩
abbrev s_Store_durable : Stmt := inClass (topS 14) 24
abbrev N_Store_durable : List Str := ["self"]
theorem sc_Store_durable : FnScope N_Store_durable ["self"] (defScope s_Store_durable) := ⟨rfl, rfl, rfl, by decide +kernel, rfl, by decide +kernel, by decide +kernel⟩
abbrev s_Store__keep : Stmt := inClass (topS 14) 25
abbrev N_Store__keep : List Str := ["self", "temps", "attic", "new_log"]
theorem sc_Store__keep : FnScope N_Store__keep ["self", "temps", "attic", "new_log"] (defScope s_Store__keep) := ⟨rfl, rfl, rfl, by decide +kernel, rfl, by decide +kernel, by decide +kernel⟩
abbrev s_law_draw : Stmt := topS 16
abbrev N_law_draw : List Str := ["state", "script", "size", "cell", "mixed", "digit"]
theorem sc_law_draw : FnScope N_law_draw ["state", "script", "size"] (defScope s_law_draw) := ⟨rfl, rfl, rfl, by decide +kernel, rfl, by decide +kernel, by decide +kernel⟩
abbrev s_law_name : Stmt := topS 17
abbrev N_law_name : List Str := ["state", "script"]
theorem sc_law_name : FnScope N_law_name ["state", "script"] (defScope s_law_name) := ⟨rfl, rfl, rfl, by decide +kernel, rfl, by decide +kernel, by decide +kernel⟩
abbrev s_law_content : Stmt := topS 18
abbrev N_law_content : List Str := ["state", "script", "most", "words", "content", "k"]
theorem sc_law_content : FnScope N_law_content ["state", "script", "most"] (defScope s_law_content) := ⟨rfl, rfl, rfl, by decide +kernel, rfl, by decide +kernel, by decide +kernel⟩
abbrev s_law_tidied : Stmt := topS 19
abbrev N_law_tidied : List Str := ["lots", "each", "total", "gone", "name", "own", "one"]
theorem sc_law_tidied : FnScope N_law_tidied ["lots", "each", "total"] (defScope s_law_tidied) := ⟨rfl, rfl, rfl, by decide +kernel, rfl, by decide +kernel, by decide +kernel⟩
abbrev s_law : Stmt := topS 20
abbrev N_law : List Str := ["script", "state", "store", "lots", "turn", "rule", "name", "vector", "kind", "content", "due", "count", "one"]
theorem sc_law : FnScope N_law ["script"] (defScope s_law) := ⟨rfl, rfl, rfl, by decide +kernel, rfl, by decide +kernel, by decide +kernel⟩
structure Txt (K : PySem.W.Frag) (mg : Str → Option Value) : Prop where
  f_enumerate : mg "enumerate" = none
  f_int : mg "int" = none
  f_isinstance : mg "isinstance" = none
  f_len : mg "len" = none
  f_list : mg "list" = none
  f_max : mg "max" = none
  f_range : mg "range" = none
  f_set : mg "set" = none
  f_sorted : mg "sorted" = none
  f_sum : mg "sum" = none
  cl_Rule : Cls K (He.ga K "Rule")
  g_Rule : mg "Rule" = some (.ref (He.ga K "Rule"))
  no_Rule_each : NoAttr K (He.ga K "Rule") "each"
  no_Rule_total : NoAttr K (He.ga K "Rule") "total"
  ct_Rule : ClsT K "Rule"
  cl_Store : Cls K (He.ga K "Store")
  g_Store : mg "Store" = some (.ref (He.ga K "Store"))
  no_Store__files : NoAttr K (He.ga K "Store") "_files"
  no_Store__temps : NoAttr K (He.ga K "Store") "_temps"
  no_Store__attic : NoAttr K (He.ga K "Store") "_attic"
  no_Store__log : NoAttr K (He.ga K "Store") "_log"
  no_Store__new_log : NoAttr K (He.ga K "Store") "_new_log"
  no_Store__budget : NoAttr K (He.ga K "Store") "_budget"
  no_Store__done : NoAttr K (He.ga K "Store") "_done"
def bnum (c : List Int) : Int := c.foldl (fun n b => n * 256 + b) 1
def bsize (n : Int) : Int := if n / 256 = 1 then 1 else if n / 65536 = 1 then 2 else if n / 16777216 = 1 then 3 else if n / 4294967296 = 1 then 4 else 0
def bbytes (n : Int) : List Int :=
  if bsize n = 1 then [n % 256] else if bsize n = 2 then [n / 256 % 256, n % 256] else if bsize n = 3 then [n / 65536 % 256, n / 256 % 256, n % 256]
  else if bsize n = 4 then [n / 16777216 % 256, n / 65536 % 256, n / 256 % 256, n % 256] else []
def isB (c : List Int) : Prop := ∀ b ∈ c, 0 ≤ b ∧ b < 256
def chunks : List Int → List (List Int)
  | [] => []
  | [a] => [[a]]
  | [a, b] => [[a, b]]
  | [a, b, c] => [[a, b, c]]
  | a :: b :: c :: d :: r => [a, b, c, d] :: chunks r
theorem chunks_flat : ∀ xs, (chunks xs).flatten = xs
  | [] => rfl
  | [a] => rfl
  | [a, b] => rfl
  | [a, b, c] => rfl
  | a :: b :: c :: d :: r => by
    show [a, b, c, d] ++ (chunks r).flatten = _
    rw [chunks_flat r]
    rfl
theorem chunks_len : ∀ xs, (chunks xs).length = (xs.length + 3) / 4
  | [] => rfl
  | [a] => by simp [chunks]
  | [a, b] => by simp [chunks]
  | [a, b, c] => by simp [chunks]
  | a :: b :: c :: d :: r => by
    have ih := chunks_len r
    show (chunks r).length + 1 = (r.length + 4 + 3) / 4
    omega
theorem chunks_get : ∀ (xs : List Int) (i : Nat), i < (xs.length + 3) / 4 → (chunks xs)[i]? = some ((xs.drop (4 * i)).take 4)
  | [], i, h => by simp at h
  | [a], i, h => by
    have e : i = 0 := by simp at h; omega
    subst e; rfl
  | [a, b], i, h => by
    have e : i = 0 := by simp at h; omega
    subst e; rfl
  | [a, b, c], i, h => by
    have e : i = 0 := by simp at h; omega
    subst e; rfl
  | a :: b :: c :: d :: r, 0, h => rfl
  | a :: b :: c :: d :: r, i + 1, h => by
    have ih := chunks_get r i (by simp at h; omega)
    show (chunks r)[i]? = _
    rw [ih]
    have e : 4 * (i + 1) = (4 * i) + 1 + 1 + 1 + 1 := by omega
    rw [e]
    rfl
theorem chunks_map (xs : List Int) : chunks xs = (List.range ((xs.length + 3) / 4)).map fun i => (xs.drop (4 * i)).take 4 := by
  refine List.ext_getElem? fun i => ?_
  by_cases h : i < (xs.length + 3) / 4
  · rw [chunks_get xs i h, List.getElem?_map, List.getElem?_range h]
    rfl
  · rw [List.getElem?_eq_none (by rw [chunks_len]; omega), List.getElem?_eq_none (by simp; omega)]
/-- a piece: one to four bytes -/
structure Piece (c : List Int) : Prop where
  b : isB c
  h1 : 1 ≤ c.length
  h4 : c.length ≤ 4
theorem chunks_piece : ∀ (xs : List Int), isB xs → ∀ c ∈ chunks xs, Piece c
  | [], _, c, h => by cases h
  | [a], hb, c, h => by
    rw [List.mem_singleton.mp h]; exact ⟨hb, by simp, by simp⟩
  | [a, b], hb, c, h => by
    rw [List.mem_singleton.mp h]; exact ⟨hb, by simp, by simp⟩
  | [a, b, c'], hb, c, h => by
    rw [List.mem_singleton.mp h]; exact ⟨hb, by simp, by simp⟩
  | a :: b :: c' :: d :: r, hb, c, h => by
    rcases List.mem_cons.mp h with e | h
    · rw [e]
      exact ⟨fun x hx => hb x (by simp at hx ⊢; rcases hx with q | q | q | q <;> simp [q]), by simp, by simp⟩
    · exact chunks_piece r (fun x hx => hb x (by simp [hx])) c h
theorem Piece.cases {c : List Int} {P : List Int → Prop} (h : Piece c) (p1 : ∀ a, 0 ≤ a ∧ a < 256 → P [a]) (p2 : ∀ a b, 0 ≤ a ∧ a < 256 → 0 ≤ b ∧ b < 256 → P [a, b])
    (p3 : ∀ a b d, 0 ≤ a ∧ a < 256 → 0 ≤ b ∧ b < 256 → 0 ≤ d ∧ d < 256 → P [a, b, d]) (p4 : ∀ a b d e, 0 ≤ a ∧ a < 256 → 0 ≤ b ∧ b < 256 → 0 ≤ d ∧ d < 256 → 0 ≤ e ∧ e < 256 → P [a, b, d, e]) : P c := by
  obtain ⟨hb, h1, h4⟩ := h
  match c, hb, h1, h4 with
  | [a], hb, _, _ => exact p1 a (hb a (by simp))
  | [a, b], hb, _, _ => exact p2 a b (hb a (by simp)) (hb b (by simp))
  | [a, b, d], hb, _, _ => exact p3 a b d (hb a (by simp)) (hb b (by simp)) (hb d (by simp))
  | [a, b, d, e], hb, _, _ => exact p4 a b d e (hb a (by simp)) (hb b (by simp)) (hb d (by simp)) (hb e (by simp))
  | _ :: _ :: _ :: _ :: _ :: _, _, _, h4 => simp at h4
theorem bnum1 (a : Int) : bnum [a] = 256 + a := by simp [bnum]
theorem bnum2 (a b : Int) : bnum [a, b] = 65536 + a * 256 + b := by simp [bnum]; omega
theorem bnum3 (a b d : Int) : bnum [a, b, d] = 16777216 + a * 65536 + b * 256 + d := by simp [bnum]; omega
theorem bnum4 (a b d e : Int) : bnum [a, b, d, e] = 4294967296 + a * 16777216 + b * 65536 + d * 256 + e := by simp [bnum]; omega
theorem bsize_bnum {c : List Int} (h : Piece c) : bsize (bnum c) = c.length := by
  refine h.cases (P := fun c => bsize (bnum c) = c.length) (fun a ha => ?_) (fun a b ha hb => ?_) (fun a b d ha hb hd => ?_) (fun a b d e ha hb hd he => ?_)
  · rw [bnum1]; unfold bsize; rw [if_pos (by omega)]; rfl
  · rw [bnum2]; unfold bsize; rw [if_neg (by omega), if_pos (by omega)]; rfl
  · rw [bnum3]; unfold bsize; rw [if_neg (by omega), if_neg (by omega), if_pos (by omega)]; rfl
  · rw [bnum4]; unfold bsize; rw [if_neg (by omega), if_neg (by omega), if_neg (by omega), if_pos (by omega)]; rfl
theorem bbytes_bnum {c : List Int} (h : Piece c) : bbytes (bnum c) = c := by
  have hs := bsize_bnum h
  unfold bbytes
  rw [hs]
  refine h.cases (P := fun c => (if (c.length : Int) = 1 then [bnum c % 256] else if (c.length : Int) = 2 then [bnum c / 256 % 256, bnum c % 256] else if (c.length : Int) = 3 then [bnum c / 65536 % 256, bnum c / 256 % 256, bnum c % 256]
    else if (c.length : Int) = 4 then [bnum c / 16777216 % 256, bnum c / 65536 % 256, bnum c / 256 % 256, bnum c % 256] else []) = c) (fun a ha => ?_) (fun a b ha hb => ?_) (fun a b d ha hb hd => ?_) (fun a b d e ha hb hd he => ?_)
  · rw [if_pos (show ((([a] : List Int).length : Nat) : Int) = 1 from rfl), bnum1]
    congr 1
    omega
  · rw [if_neg (by simp), if_pos (show ((([a, b] : List Int).length : Nat) : Int) = 2 from rfl), bnum2]
    have e1 : (65536 + a * 256 + b) / 256 % 256 = a := by omega
    have e2 : (65536 + a * 256 + b) % 256 = b := by omega
    rw [e1, e2]
  · rw [if_neg (by simp), if_neg (by simp), if_pos (show ((([a, b, d] : List Int).length : Nat) : Int) = 3 from rfl), bnum3]
    have e1 : (16777216 + a * 65536 + b * 256 + d) / 65536 % 256 = a := by omega
    have e2 : (16777216 + a * 65536 + b * 256 + d) / 256 % 256 = b := by omega
    have e3 : (16777216 + a * 65536 + b * 256 + d) % 256 = d := by omega
    rw [e1, e2, e3]
  · rw [if_neg (by simp), if_neg (by simp), if_neg (by simp), if_pos (show ((([a, b, d, e] : List Int).length : Nat) : Int) = 4 from rfl), bnum4]
    have e1 : (4294967296 + a * 16777216 + b * 65536 + d * 256 + e) / 16777216 % 256 = a := by omega
    have e2 : (4294967296 + a * 16777216 + b * 65536 + d * 256 + e) / 65536 % 256 = b := by omega
    have e3 : (4294967296 + a * 16777216 + b * 65536 + d * 256 + e) / 256 % 256 = d := by omega
    have e4 : (4294967296 + a * 16777216 + b * 65536 + d * 256 + e) % 256 = e := by omega
    rw [e1, e2, e3, e4]
theorem bnum_inj {c d : List Int} (hc : Piece c) (hd : Piece d) : bnum c = bnum d ↔ c = d :=
  ⟨fun e => by rw [← bbytes_bnum hc, ← bbytes_bnum hd, e], fun e => by rw [e]⟩
theorem flat_bytes {xs : List Int} (h : isB xs) : ((chunks xs).map bnum).flatMap bbytes = xs := by
  have q : ∀ l : List (List Int), (∀ c ∈ l, Piece c) → (l.map bnum).flatMap bbytes = l.flatten := by
    intro l
    induction l with
    | nil => intro _; rfl
    | cons c r ih =>
      intro hp
      show bbytes (bnum c) ++ (r.map bnum).flatMap bbytes = c ++ r.flatten
      rw [bbytes_bnum (hp c (List.mem_cons_self ..)), ih fun d hd => hp d (List.mem_cons_of_mem _ hd)]
  rw [q _ (chunks_piece xs h), chunks_flat]
def nums (xs : List Int) : List Int := (chunks xs).map bnum
theorem nums_inj {xs ys : List Int} (h1 : isB xs) (h2 : isB ys) : nums xs = nums ys ↔ xs = ys :=
  ⟨fun e => by rw [← flat_bytes h1, ← flat_bytes h2]; exact congrArg _ e, fun e => by rw [e]⟩
/-- the order of two rows of bytes by their pieces -/
def lessP : List (List Int) → List (List Int) → Bool
  | [], [] => false
  | [], _ :: _ => true
  | _ :: _, [] => false
  | c :: cs, d :: ds => if c = d then lessP cs ds else if c.length = d.length then HT.lexLt c d else decide (c.length < d.length)
theorem bnum_len {c d : List Int} (hc : Piece c) (hd : Piece d) (h : c.length < d.length) : bnum c < bnum d := by
  have key : ∀ c : List Int, Piece c → 256 ^ c.length ≤ bnum c ∧ bnum c < 2 * 256 ^ c.length := fun c h => by
    refine h.cases (P := fun c => 256 ^ c.length ≤ bnum c ∧ bnum c < 2 * 256 ^ c.length) (fun a ha => ?_) (fun a b ha hb => ?_) (fun a b d ha hb hd => ?_) (fun a b d e ha hb hd he => ?_)
    · rw [bnum1, show (256 : Int) ^ ([a] : List Int).length = 256 from rfl]; omega
    · rw [bnum2, show (256 : Int) ^ ([a, b] : List Int).length = 65536 from rfl]; omega
    · rw [bnum3]
      show (256 : Int) ^ 3 ≤ _ ∧ _ < 2 * (256 : Int) ^ 3
      rw [show (256 : Int) ^ 3 = 16777216 by decide +kernel]; omega
    · rw [bnum4]
      show (256 : Int) ^ 4 ≤ _ ∧ _ < 2 * (256 : Int) ^ 4
      rw [show (256 : Int) ^ 4 = 4294967296 by decide +kernel]; omega
  have k1 := (key c hc).2
  have k2 := (key d hd).1
  have l1 := hc.h1
  have l4 := hd.h4
  have e : ∀ n : Nat, 1 ≤ n → n < d.length → (2 : Int) * 256 ^ n ≤ 256 ^ d.length := fun n h1 h2 => by
    have hd4 : d.length = 2 ∨ d.length = 3 ∨ d.length = 4 := by omega
    have hn : n = 1 ∨ n = 2 ∨ n = 3 := by omega
    rcases hd4 with q | q | q <;> rcases hn with r | r | r <;> rw [q, r] <;> first | decide | (exfalso; omega)
  have := e _ l1 h
  omega
theorem bnum_lex {c d : List Int} (hc : Piece c) (hd : Piece d) (h : c.length = d.length) (hne : c ≠ d) : decide (bnum c < bnum d) = HT.lexLt c d := by
  obtain ⟨bc, c1, c4⟩ := hc
  obtain ⟨bd, d1, d4⟩ := hd
  match c, d, bc, c1, c4, bd, h, hne with
  | [a], [b], bc, _, _, bd, _, hne =>
    have h1 := bc a (by simp)
    have h2 := bd b (by simp)
    have n1 : a ≠ b := fun e => hne (by rw [e])
    rw [bnum1, bnum1]
    show _ = if a = b then false else decide (a < b)
    rw [if_neg n1]
    exact decide_eq_decide.mpr (by omega)
  | [a, a2], [b, b2], bc, _, _, bd, _, hne =>
    have h1 := bc a (by simp)
    have h2 := bd b (by simp)
    have h3 := bc a2 (by simp)
    have h4 := bd b2 (by simp)
    rw [bnum2, bnum2]
    show _ = if a = b then (if a2 = b2 then false else decide (a2 < b2)) else decide (a < b)
    by_cases n1 : a = b
    · rw [if_pos n1]
      have n2 : a2 ≠ b2 := fun e => hne (by rw [n1, e])
      rw [if_neg n2]
      exact decide_eq_decide.mpr (by omega)
    · rw [if_neg n1]
      exact decide_eq_decide.mpr (by omega)
  | [a, a2, a3], [b, b2, b3], bc, _, _, bd, _, hne =>
    have h1 := bc a (by simp)
    have h2 := bd b (by simp)
    have h3 := bc a2 (by simp)
    have h4 := bd b2 (by simp)
    have h5 := bc a3 (by simp)
    have h6 := bd b3 (by simp)
    rw [bnum3, bnum3]
    show _ = if a = b then (if a2 = b2 then (if a3 = b3 then false else decide (a3 < b3)) else decide (a2 < b2)) else decide (a < b)
    by_cases n1 : a = b
    · rw [if_pos n1]
      by_cases n2 : a2 = b2
      · rw [if_pos n2]
        have n3 : a3 ≠ b3 := fun e => hne (by rw [n1, n2, e])
        rw [if_neg n3]
        exact decide_eq_decide.mpr (by omega)
      · rw [if_neg n2]
        exact decide_eq_decide.mpr (by omega)
    · rw [if_neg n1]
      exact decide_eq_decide.mpr (by omega)
  | [a, a2, a3, a4], [b, b2, b3, b4], bc, _, _, bd, _, hne =>
    have h1 := bc a (by simp)
    have h2 := bd b (by simp)
    have h3 := bc a2 (by simp)
    have h4 := bd b2 (by simp)
    have h5 := bc a3 (by simp)
    have h6 := bd b3 (by simp)
    have h7 := bc a4 (by simp)
    have h8 := bd b4 (by simp)
    rw [bnum4, bnum4]
    show _ = if a = b then (if a2 = b2 then (if a3 = b3 then (if a4 = b4 then false else decide (a4 < b4)) else decide (a3 < b3)) else decide (a2 < b2)) else decide (a < b)
    by_cases n1 : a = b
    · rw [if_pos n1]
      by_cases n2 : a2 = b2
      · rw [if_pos n2]
        by_cases n3 : a3 = b3
        · rw [if_pos n3]
          have n4 : a4 ≠ b4 := fun e => hne (by rw [n1, n2, n3, e])
          rw [if_neg n4]
          exact decide_eq_decide.mpr (by omega)
        · rw [if_neg n3]
          exact decide_eq_decide.mpr (by omega)
      · rw [if_neg n2]
        exact decide_eq_decide.mpr (by omega)
    · rw [if_neg n1]
      exact decide_eq_decide.mpr (by omega)
theorem lex_nums : ∀ {cs ds : List (List Int)}, (∀ c ∈ cs, Piece c) → (∀ d ∈ ds, Piece d) → HT.lexLt (cs.map bnum) (ds.map bnum) = lessP cs ds
  | [], [], _, _ => rfl
  | [], _ :: _, _, _ => rfl
  | _ :: _, [], _, _ => rfl
  | c :: cs, d :: ds, h1, h2 => by
    have pc := h1 c (List.mem_cons_self ..)
    have pd := h2 d (List.mem_cons_self ..)
    have ih := lex_nums (cs := cs) (ds := ds) (fun x hx => h1 x (List.mem_cons_of_mem _ hx)) (fun x hx => h2 x (List.mem_cons_of_mem _ hx))
    show (if bnum c = bnum d then HT.lexLt (cs.map bnum) (ds.map bnum) else decide (bnum c < bnum d)) = if c = d then lessP cs ds else if c.length = d.length then HT.lexLt c d else decide (c.length < d.length)
    by_cases e : c = d
    · rw [if_pos e, if_pos (by rw [e]), ih]
    · rw [if_neg e, if_neg (fun q => e ((bnum_inj pc pd).mp q))]
      by_cases l : c.length = d.length
      · rw [if_pos l, bnum_lex pc pd l e]
      · rw [if_neg l]
        by_cases l2 : c.length < d.length
        · rw [decide_eq_true l2, decide_eq_true (bnum_len pc pd l2)]
        · have := bnum_len pd pc (by omega)
          rw [decide_eq_false l2, decide_eq_false (by omega)]
def sp_block_number (K : PySem.W.Frag) : Sp := sp1 fun a H Q => ∃ (p : Addr) (xs : List Int), a = .ref p ∧ SqL K H p (xs.map V.int) ∧ Q (.int (bnum xs)) H
def sp_block_size (K : PySem.W.Frag) : Sp := sp1 fun a H Q => ∃ n : Int, a = .int n ∧ Q (.int (bsize n)) H
def sp_is_block (K : PySem.W.Frag) : Sp := sp1 fun a H Q => ∃ n : Int, a = .int n ∧ Q (.bl (decide (0 < bsize n))) H
def sp_block_bytes (K : PySem.W.Frag) : Sp := sp1 fun a H Q => ∃ n : Int, a = .int n ∧ 0 < bsize n ∧ ∀ (p : Addr) (H' : Hp), H p = none → Same H H' → H' p = some (.lst ((bbytes n).map V.int)) → Q (.ref p) H'
def sp_split (K : PySem.W.Frag) : Sp := sp1 fun a H Q => ∃ (p : Addr) (xs : List Int), a = .ref p ∧ SqL K H p (xs.map V.int) ∧ xs.length ≤ 100000 ∧ ∀ (q : Addr) (H' : Hp), H q = none → Same H H' → H' q = some (.tup ((nums xs).map V.int)) → Q (.ref q) H'
theorem bsize_le (n : Int) : 0 ≤ bsize n ∧ bsize n ≤ 4 := by
  unfold bsize
  repeat' split
  all_goals omega
theorem bbytes_len (n : Int) : (bbytes n).length ≤ 4 := by
  unfold bbytes
  repeat' split
  all_goals simp
theorem range4 {n : Int} (h0 : 0 ≤ n) (h1 : n ≤ 1000000) : RgC 0 n 4 ((n.toNat + 3) / 4) := by
  have e : Builtin.Range.rangeSize 0 n 4 = (((n.toNat + 3) / 4 : Nat) : Int) := by
    rw [PyProof.Rows.rangeSize_pos (by decide) h0]
    omega
  refine ⟨by decide, by decide, ?_, e⟩
  unfold Builtin.Range.small
  rw [e]
  simp only [Builtin.Range.rangeFitsLong, Bool.and_eq_true, Bool.or_eq_true, decide_eq_true_eq, beq_iff_eq, show ((4 : Int) > 0) by decide, if_true]
  omega
theorem cut_chunk (xs : List Int) (i : Nat) : cutV (xs.map V.int) (some (0 + (i : Nat) * 4)) (some (0 + (i : Nat) * 4 + 4)) = ((xs.drop (4 * i)).take 4).map V.int := by
  unfold cutV
  have e1 : (0 + ((i : Nat) : Int) * 4) = ((4 * i : Nat) : Int) := by omega
  have e2 : (0 + ((i : Nat) : Int) * 4 + 4) = ((4 * i + 4 : Nat) : Int) := by omega
  rw [e2, e1, HT.sIx_nat, HT.sIx_nat, List.length_map, List.map_take, List.map_drop]
  by_cases h : 4 * i ≤ xs.length
  · rw [Nat.min_eq_left h]
    by_cases h2 : 4 * i + 4 ≤ xs.length
    · rw [Nat.min_eq_left h2, show 4 * i + 4 - 4 * i = 4 by omega]
    · rw [Nat.min_eq_right (by omega)]
      rw [List.take_of_length_le (by simp), List.take_of_length_le (by simp; omega)]
  · rw [Nat.min_eq_right (by omega), Nat.min_eq_right (by omega)]
    rw [List.drop_eq_nil_of_le (by simp), List.drop_eq_nil_of_le (by simp; omega)]
    simp
theorem bbytes_length {n : Int} (h : 0 < bsize n) : (bbytes n).length = (bsize n).toNat := by
  have h4 := (bsize_le n).2
  unfold bbytes
  by_cases e1 : bsize n = 1
  · rw [if_pos e1, e1]; rfl
  · rw [if_neg e1]
    by_cases e2 : bsize n = 2
    · rw [if_pos e2, e2]; rfl
    · rw [if_neg e2]
      by_cases e3 : bsize n = 3
      · rw [if_pos e3, e3]; rfl
      · rw [if_neg e3]
        have e4 : bsize n = 4 := by omega
        rw [if_pos e4, e4]; rfl
theorem byte_at {n : Int} {i : Nat} (h : 0 < bsize n) (hi : i < (bsize n - 0).toNat) : n / 2 ^ (8 * (0 + ((bsize n - 0).toNat : Int) - 1 + (i : Int) * -1)).toNat % 2 ^ 8 = (bbytes n).getD i 0 := by
  have h4 := (bsize_le n).2
  unfold bbytes
  by_cases e1 : bsize n = 1
  · rw [if_pos e1]
    rw [e1] at hi ⊢
    have ei : i = 0 := by omega
    subst ei
    show n / 1 % 256 = n % 256
    omega
  · rw [if_neg e1]
    by_cases e2 : bsize n = 2
    · rw [if_pos e2]
      rw [e2] at hi ⊢
      have hi2 : i < 2 := by omega
      match i, hi2 with
      | 0, _ => rfl
      | 1, _ =>
        show n / 1 % 256 = n % 256
        omega
    · rw [if_neg e2]
      by_cases e3 : bsize n = 3
      · rw [if_pos e3]
        rw [e3] at hi ⊢
        have hi2 : i < 3 := by omega
        match i, hi2 with
        | 0, _ => rfl
        | 1, _ => rfl
        | 2, _ =>
          show n / 1 % 256 = n % 256
          omega
      · rw [if_neg e3]
        have e4 : bsize n = 4 := by omega
        rw [if_pos e4]
        rw [e4] at hi ⊢
        have hi2 : i < 4 := by omega
        match i, hi2 with
        | 0, _ => rfl
        | 1, _ => rfl
        | 2, _ => rfl
        | 3, _ =>
          show n / 1 % 256 = n % 256
          omega
theorem map_getD : ∀ (l : List Int), (List.range l.length).map (fun i => V.int (l.getD i 0)) = l.map V.int := fun l => by
  refine List.ext_getElem? fun i => ?_
  by_cases h : i < l.length
  · rw [List.getElem?_map, List.getElem?_range h, List.getElem?_map, List.getElem?_eq_getElem h]
    show some (V.int (l.getD i 0)) = some (V.int l[i])
    rw [List.getD_eq_getElem?_getD, List.getElem?_eq_getElem h]
    rfl
  · rw [List.getElem?_eq_none (by simp; omega), List.getElem?_eq_none (by simp; omega)]
theorem nums_range (xs : List Int) : (nums xs).map V.int = (List.range ((xs.length + 3) / 4)).map fun i => V.int (bnum ((xs.drop (4 * i)).take 4)) := by
  unfold nums
  rw [chunks_map, List.map_map, List.map_map]
  rfl
theorem nums_len (xs : List Int) : (nums xs).length = (xs.length + 3) / 4 := by
  unfold nums
  rw [List.length_map, chunks_len]
theorem flat_len : ∀ ns : List Int, (ns.flatMap bbytes).length ≤ 4 * ns.length
  | [] => Nat.zero_le _
  | n :: r => by
    have ih := flat_len r
    have := bbytes_len n
    show (bbytes n ++ r.flatMap bbytes).length ≤ 4 * (r.length + 1)
    rw [List.length_append]
    omega
theorem same_tup {K : PySem.W.Frag} {H H' : Hp} {a : Addr} {xs : List V} (e : Same H H') (h : SqT K H a xs) : SqT K H' a xs := by
  rcases h with (h | ⟨o, h⟩) | h
  · exact .inl (.inl (e _ _ h))
  · exact .inl (.inr ⟨o, e _ _ h⟩)
  · exact .inr h
theorem cut_chunk2 (xs : List Int) (i : Nat) : cutV (xs.map V.int) (some (4 * (0 + (i : Nat)))) (some (4 * (0 + (i : Nat)) + 4)) = ((xs.drop (4 * i)).take 4).map V.int := by
  have e : (4 * (0 + ((i : Nat) : Int))) = 0 + (i : Nat) * 4 := by omega
  rw [e]; exact cut_chunk xs i
theorem nums_at {xs : List Int} {i : Nat} (h : i < (xs.length + 3) / 4) : (nums xs)[i]? = some (bnum ((xs.drop (4 * i)).take 4)) := by
  rw [nums, List.getElem?_map, chunks_get xs i h]; rfl
theorem nums_get {xs : List Int} {i : Nat} (h : i < (xs.length + 3) / 4) : atI ((nums xs).map V.int) (0 + (i : Nat)) = some (.int (bnum ((xs.drop (4 * i)).take 4))) :=
  at_of (j := i) (by omega) (by rw [List.getElem?_map, nums_at h]; rfl)
theorem chunk_piece {xs : List Int} (hb : isB xs) {i : Nat} (h : i < (xs.length + 3) / 4) : Piece ((xs.drop (4 * i)).take 4) :=
  chunks_piece xs hb _ (List.mem_of_getElem? (chunks_get xs i h))
theorem nums_pos {xs : List Int} (hb : isB xs) : ∀ n ∈ nums xs, 0 < bsize n := fun n hn => by
  obtain ⟨c, hc, rfl⟩ := List.mem_map.mp hn
  have q := chunks_piece xs hb c hc
  have := q.h1
  rw [bsize_bnum q]
  omega
theorem nums_len' (xs : List Int) : (nums xs).length = (xs.length + 3) / 4 := by rw [nums, List.length_map, chunks_len]
/-- blocks of one content -/
def isBlocks (ns : List Int) : Bool := decide (ns.length ≤ 255) && ns.dropLast.all (fun n => decide (bsize n = 4)) && (decide (ns = []) || decide (0 < bsize (ns.getLastD 0)))
theorem isBl_long {ns : List Int} (h : 255 < ns.length) : isBlocks ns = false := by
  unfold isBlocks
  rw [decide_eq_false (by omega)]
  rfl
theorem isBl_bad {ns : List Int} {x : Int} (h : x ∈ ns.dropLast) (h2 : ¬ bsize x = 4) : isBlocks ns = false := by
  unfold isBlocks
  have e : (ns.dropLast.all fun n => decide (bsize n = 4)) = false := by
    rw [List.all_eq_false]
    exact ⟨x, h, by rw [decide_eq_false h2]; exact Bool.false_ne_true⟩
  rw [e, Bool.and_false, Bool.false_and]
theorem isBl_end {ns : List Int} (h1 : ns.length ≤ 255) (h2 : ∀ n ∈ ns.dropLast, bsize n = 4) : isBlocks ns = (decide (ns = []) || decide (0 < bsize (ns.getLastD 0))) := by
  unfold isBlocks
  have e : (ns.dropLast.all fun n => decide (bsize n = 4)) = true := by
    rw [List.all_eq_true]
    exact fun n hn => decide_eq_true (h2 n hn)
  rw [e, decide_eq_true h1]
  rfl
theorem isBl_nums {xs : List Int} (hb : isB xs) (hl : xs.length ≤ 1020) : isBlocks (nums xs) = true := by
  have n1 := nums_len' xs
  rw [isBl_end (by omega) fun n hn => ?_]
  · by_cases e : nums xs = []
    · rw [decide_eq_true e]; rfl
    · have hm : (nums xs).getLastD 0 ∈ nums xs := by
        rw [List.getLastD_eq_getLast?, List.getLast?_eq_some_getLast e]
        exact List.getLast_mem e
      rw [decide_eq_true (nums_pos hb _ hm), Bool.or_true]
  · obtain ⟨i, hi⟩ := List.getElem?_of_mem hn
    rw [List.getElem?_dropLast] at hi
    split at hi
    · rename_i h2
      have h3 : i < (xs.length + 3) / 4 := by omega
      rw [nums_at h3] at hi
      rw [← Option.some.inj hi, bsize_bnum (chunk_piece hb h3), List.length_take, List.length_drop]
      omega
    · cases hi
theorem cut_last (xs : List V) : cutV xs none (some (-1)) = xs.dropLast := by
  unfold cutV
  have e : HT.sIx xs.length xs.length (some (-1)) = xs.length - 1 := by
    show (if (-1 : Int) < 0 then ((-1 : Int) + (xs.length : Int)).toNat else min (-1 : Int).toNat xs.length) = _
    rw [if_pos (by decide)]
    omega
  rw [e, HT.sIx_none, List.drop_zero, Nat.sub_zero, List.dropLast_eq_take]
theorem e_slA {K : PySem.W.Frag} {H : Hp} {Q : VK} {p : Addr} {xs : List V} {lo hi : Option Int} (h : SqT K H p xs) (q : ∀ r H', Same H H' → SqT K H' r (cutV xs lo hi) → Q (.ref r) H') : rSlA K (.ref p) lo hi H Q := by
  refine ⟨p, xs, rfl, h, fun w => q p H (Same.refl H) ?_, fun _ r hr => q r _ (same_new hr) (SqT.of upd_same)⟩
  have e : cutV xs lo hi = xs := by
    unfold cutV
    rw [w.1, w.2, List.drop_zero, Nat.sub_zero, List.take_length]
  rw [e]; exact h
theorem last_at {ns : List Int} (h : ¬ ns = []) : atI (ns.map V.int) (-1) = some (.int (ns.getLastD 0)) := by
  have e : ns = ns.dropLast ++ [ns.getLast h] := (List.dropLast_concat_getLast h).symm
  have e2 : ns.getLastD 0 = ns.getLast h := by
    rw [List.getLastD_eq_getLast?, List.getLast?_eq_some_getLast h]; rfl
  rw [e2]
  have e3 : ns.map V.int = ns.dropLast.map V.int ++ [V.int (ns.getLast h)] := by
    rw [← List.map_singleton, ← List.map_append, ← e]
  rw [e3]
  exact atI_last _ _
theorem map_dropLast (ns : List Int) : (ns.map V.int).dropLast = ns.dropLast.map V.int := (List.map_dropLast ..).symm
def sp_is_blocks (K : PySem.W.Frag) : Sp := sp1 fun a H Q => ∃ (p : Addr) (ns : List Int), a = .ref p ∧ SqE K H p (ns.map V.int) ∧ ∀ H', Same H H' → Q (.bl (isBlocks ns)) H'
def sp_law_integers (K : PySem.W.Frag) : Sp := sp1 fun a H Q => ∃ (p : Addr) (ns : List Int), a = .ref p ∧ SqE K H p (ns.map V.int) ∧ Q (.bl true) H
abbrev Vc := List (Int × Int)
def cnt : Vc → Int → Int
  | [], _ => 0
  | c :: r, d => if c.1 = d then c.2 else cnt r d
def madeN (n : Nat) (f : Nat → Int) : Vc := ((List.range n).filter fun k => decide (0 < f k)).map fun k => (((k : Nat) : Int) + 1, f k)
abbrev made (f : Nat → Int) : Vc := madeN 9 f
theorem madeN_succ (n : Nat) (f : Nat → Int) : madeN (n + 1) f = madeN n f ++ (if 0 < f n then [(((n : Nat) : Int) + 1, f n)] else []) := by
  unfold madeN
  rw [List.range_succ, List.filter_append, List.map_append]
  by_cases h : 0 < f n
  · rw [if_pos h, List.filter_cons_of_pos (by rw [decide_eq_true h])]; rfl
  · rw [if_neg h, List.filter_cons_of_neg (by rw [decide_eq_false h]; exact Bool.false_ne_true)]; rfl
theorem madeN_mem {n : Nat} {f : Nat → Int} {c : Int × Int} (h : c ∈ madeN n f) : ∃ k : Nat, k < n ∧ c = (((k : Nat) : Int) + 1, f k) ∧ 0 < f k := by
  obtain ⟨k, hk, rfl⟩ := List.mem_map.mp h
  obtain ⟨h1, h2⟩ := List.mem_filter.mp hk
  exact ⟨k, List.mem_range.mp h1, rfl, of_decide_eq_true h2⟩
theorem cnt_app_ne {u : Vc} {c : Int × Int} {d : Int} (h : ¬ c.1 = d) : cnt (u ++ [c]) d = cnt u d := by
  induction u with
  | nil => show (if c.1 = d then _ else _) = _; rw [if_neg h]
  | cons x r ih => show (if x.1 = d then _ else cnt (r ++ [c]) d) = if x.1 = d then _ else _; rw [ih]
theorem cnt_app_out {u w : Vc} {d : Int} (h : ∀ c ∈ u, ¬ c.1 = d) : cnt (u ++ w) d = cnt w d := by
  induction u with
  | nil => rfl
  | cons x r ih =>
    show (if x.1 = d then _ else cnt (r ++ w) d) = _
    rw [if_neg (h x (List.mem_cons_self ..)), ih fun c hc => h c (List.mem_cons_of_mem _ hc)]
theorem cnt_madeN {f : Nat → Int} (hf : ∀ k, 0 ≤ f k) (k : Nat) : ∀ n, cnt (madeN n f) (((k : Nat) : Int) + 1) = if k < n then f k else 0
  | 0 => by rw [if_neg (by omega)]; rfl
  | n + 1 => by
    have ih := cnt_madeN hf k n
    rw [madeN_succ]
    by_cases h : k = n
    · subst h
      rw [if_pos (show k < k + 1 by omega), cnt_app_out fun c hc => ?_]
      · by_cases h0 : 0 < f k
        · rw [if_pos h0]
          show (if ((k : Nat) : Int) + 1 = ((k : Nat) : Int) + 1 then f k else 0) = _
          rw [if_pos rfl]
        · rw [if_neg h0]; have := hf k; show (0 : Int) = _; omega
      · obtain ⟨j, hj, rfl, _⟩ := madeN_mem hc
        show ¬ ((j : Nat) : Int) + 1 = _
        omega
    · have e : (if k < n + 1 then f k else 0) = if k < n then f k else 0 := by
        by_cases h2 : k < n
        · rw [if_pos h2, if_pos (by omega)]
        · rw [if_neg h2, if_neg (by omega)]
      rw [e, ← ih]
      by_cases h0 : 0 < f n
      · rw [if_pos h0, cnt_app_ne (by show ¬ ((n : Nat) : Int) + 1 = _; omega)]
      · rw [if_neg h0, List.append_nil]
theorem cnt_made {f : Nat → Int} (hf : ∀ k, 0 ≤ f k) {k : Nat} (hk : k < 9) : cnt (made f) (((k : Nat) : Int) + 1) = f k := by
  rw [cnt_madeN hf, if_pos hk]
/-- the last that was told, along a row -/
def told (g : Int → Int → Int) (v : Vc) (d i : Int) : Int := v.foldl (fun acc c => if c.1 = d then g c.2 acc else acc) i
theorem told_app (g : Int → Int → Int) (u w : Vc) (d i : Int) : told g (u ++ w) d i = told g w d (told g u d i) := by
  unfold told; rw [List.foldl_append]
theorem told_one (g : Int → Int → Int) (c : Int × Int) (d i : Int) : told g [c] d i = if c.1 = d then g c.2 i else i := rfl
theorem told_madeN (g : Int → Int → Int) {f : Nat → Int} (k : Nat) (i : Int) : ∀ n, told g (madeN n f) (((k : Nat) : Int) + 1) i = if k < n ∧ 0 < f k then g (f k) i else i
  | 0 => by rw [if_neg (by omega)]; rfl
  | n + 1 => by
    have ih := told_madeN g (f := f) k i n
    rw [madeN_succ, told_app, ih]
    by_cases h0 : 0 < f n
    · rw [if_pos h0, told_one]
      by_cases h : k = n
      · subst h
        show (if ((k : Nat) : Int) + 1 = _ then _ else _) = _
        rw [if_pos rfl, if_neg (show ¬ (k < k ∧ 0 < f k) by omega), if_pos ⟨by omega, h0⟩]
      · show (if ((n : Nat) : Int) + 1 = _ then _ else _) = _
        rw [if_neg (by omega)]
        by_cases h2 : k < n ∧ 0 < f k
        · rw [if_pos h2, if_pos ⟨by omega, h2.2⟩]
        · rw [if_neg h2, if_neg (by omega)]
    · rw [if_neg h0]
      show (if k < n ∧ 0 < f k then g (f k) i else i) = _
      by_cases h2 : k < n ∧ 0 < f k
      · rw [if_pos h2, if_pos ⟨by omega, h2.2⟩]
      · by_cases h : k = n
        · subst h
          rw [if_neg h2, if_neg (by omega)]
        · rw [if_neg h2, if_neg (by omega)]
theorem last_made {f : Nat → Int} (hf : ∀ k, 0 ≤ f k) {k : Nat} (hk : k < 9) : told (fun c _ => c) (made f) (((k : Nat) : Int) + 1) 0 = f k := by
  rw [told_madeN]
  by_cases h : 0 < f k
  · rw [if_pos ⟨hk, h⟩]
  · have := hf k
    rw [if_neg (by omega)]; omega
def mx (i j : Int) : Int := if j > i then j else i
theorem max_made {f g : Nat → Int} (hf : ∀ k, 0 ≤ f k) {k : Nat} (hk : k < 9) : told mx (made g) (((k : Nat) : Int) + 1) (f k) = mx (f k) (g k) := by
  rw [told_madeN]
  have := hf k
  by_cases h : 0 < g k
  · rw [if_pos ⟨hk, h⟩]
    unfold mx
    split <;> split <;> omega
  · rw [if_neg (by omega)]
    unfold mx
    rw [if_neg (by omega)]
def lessF (n : Nat) (f g : Nat → Int) : Bool := (List.range n).any fun k => decide (f k < g k)
theorem less_madeN {f g : Nat → Int} (hf : ∀ k, 0 ≤ f k) : ∀ n, n ≤ 9 → ((madeN n g).any fun c => decide (cnt (made f) c.1 < c.2)) = lessF n f g
  | 0, _ => rfl
  | n + 1, h => by
    have ih := less_madeN (g := g) hf n (by omega)
    have e : lessF (n + 1) f g = (lessF n f g || decide (f n < g n)) := by
      unfold lessF
      rw [List.range_succ, List.any_append]
      simp
    rw [madeN_succ, List.any_append, ih, e]
    have := hf n
    by_cases h0 : 0 < g n
    · rw [if_pos h0]
      show (_ || (decide (cnt (made f) (((n : Nat) : Int) + 1) < g n) || false)) = _
      rw [cnt_made hf (by omega), Bool.or_false]
    · rw [if_neg h0, decide_eq_false (by omega : ¬ f n < g n)]
      rfl
/-! a dict of counts -/
def kvl (m : Vc) : List (Key × V) := m.map fun c => (Sum.inl c.1, V.int c.2)
def dput (m : Vc) (k c : Int) : Vc := if (m.any fun x => decide (x.1 = k)) = true then m.map (fun x => if x.1 = k then (k, c) else x) else m ++ [(k, c)]
structure Good (m : Vc) : Prop where
  nd : (m.map (·.1)).Nodup
  rg : ∀ c ∈ m, 1 ≤ c.1 ∧ c.1 ≤ 9 ∧ 0 < c.2
theorem putK_kvl (m : Vc) (k c : Int) : putK (kvl m) (Sum.inl k) (V.int c) = kvl (dput m k c) := by
  have e1 : ((kvl m).any fun kv => decide (kv.1 = (Sum.inl k : Key))) = (m.any fun x => decide (x.1 = k)) := by
    unfold kvl
    rw [List.any_map]
    congr 1
    funext x
    exact decide_eq_decide.mpr ⟨fun h => Sum.inl.inj h, fun h => congrArg Sum.inl h⟩
  unfold putK dput
  rw [e1]
  split
  · unfold kvl
    rw [List.map_map, List.map_map]
    refine List.map_congr_left fun x _ => ?_
    show (if (Sum.inl x.1 : Key) = Sum.inl k then _ else _) = (fun c : Int × Int => ((Sum.inl c.1 : Key), V.int c.2)) (if x.1 = k then (k, c) else x)
    by_cases h : x.1 = k
    · rw [if_pos h, if_pos (congrArg Sum.inl h)]
      show ((Sum.inl x.1 : Key), V.int c) = (Sum.inl k, V.int c)
      rw [h]
    · rw [if_neg h, if_neg fun q => h (Sum.inl.inj q)]
  · unfold kvl
    rw [List.map_append]
    rfl
theorem valV_kvl (m : Vc) (d : Int) : ((valV (kvl m) (Sum.inl d : Key)).getD (.int 0) = .int (cnt m d)) ∧ (∀ c ∈ m, c.1 = d → valV (kvl m) (Sum.inl d : Key) = some (.int (cnt m d))) := by
  induction m with
  | nil => exact ⟨rfl, fun c hc => by cases hc⟩
  | cons x r ih =>
    have e : valV (kvl (x :: r)) (Sum.inl d : Key) = if x.1 = d then some (.int x.2) else valV (kvl r) (Sum.inl d : Key) := by
      unfold valV kvl
      rw [List.map_cons, List.find?_cons]
      by_cases h : x.1 = d
      · rw [if_pos h, decide_eq_true (congrArg Sum.inl h)]; rfl
      · rw [if_neg h, decide_eq_false fun q => h (Sum.inl.inj q)]
    rw [e]
    show (_ = V.int (if x.1 = d then x.2 else cnt r d)) ∧ _
    by_cases h : x.1 = d
    · rw [if_pos h, if_pos h]
      exact ⟨rfl, fun _ _ _ => by show _ = some (V.int (if x.1 = d then x.2 else cnt r d)); rw [if_pos h]⟩
    · rw [if_neg h, if_neg h]
      refine ⟨ih.1, fun c hc q => ?_⟩
      show _ = some (V.int (if x.1 = d then x.2 else cnt r d))
      rw [if_neg h]
      rcases List.mem_cons.mp hc with rfl | hc
      · exact absurd q h
      · exact ih.2 c hc q
theorem cnt_pos {m : Vc} (g : Good m) {d : Int} : (∃ c ∈ m, c.1 = d) ↔ 0 < cnt m d := by
  have := g.rg
  clear g
  induction m with
  | nil => exact ⟨fun ⟨c, hc, _⟩ => (by cases hc), fun h => absurd h (by show ¬ (0 : Int) < 0; omega)⟩
  | cons x r ih =>
    have ih : (∃ c ∈ r, c.1 = d) ↔ 0 < cnt r d := ih fun c hc => this c (List.mem_cons_of_mem _ hc)
    have hx := this x (List.mem_cons_self ..)
    show _ ↔ 0 < if x.1 = d then x.2 else cnt r d
    by_cases h : x.1 = d
    · rw [if_pos h]
      exact ⟨fun _ => hx.2.2, fun _ => ⟨x, List.mem_cons_self .., h⟩⟩
    · rw [if_neg h]
      refine Iff.trans ?_ ih
      constructor
      · rintro ⟨c, hc, q⟩
        rcases List.mem_cons.mp hc with rfl | hc
        · exact absurd q h
        · exact ⟨c, hc, q⟩
      · rintro ⟨c, hc, q⟩
        exact ⟨c, List.mem_cons_of_mem _ hc, q⟩
theorem cnt_dput (m : Vc) (k c d : Int) : cnt (dput m k c) d = if k = d then c else cnt m d := by
  unfold dput
  split
  · rename_i h
    have key : ∀ m : Vc, (m.any fun x => decide (x.1 = k)) = true → cnt (m.map fun x => if x.1 = k then (k, c) else x) d = if k = d then c else cnt m d := by
      intro m
      have none : ∀ m : Vc, ¬ k = d → cnt (m.map fun x => if x.1 = k then (k, c) else x) d = cnt m d := by
        intro m hk
        induction m with
        | nil => rfl
        | cons x r ih =>
          show cnt ((if x.1 = k then (k, c) else x) :: r.map _) d = if x.1 = d then x.2 else cnt r d
          by_cases hx : x.1 = k
          · rw [if_pos hx]
            show (if k = d then c else _) = _
            rw [if_neg hk, if_neg (by rw [hx]; exact hk), ih]
          · rw [if_neg hx]
            show (if x.1 = d then x.2 else _) = _
            rw [ih]
      induction m with
      | nil => intro h; cases h
      | cons x r ih =>
        intro h
        by_cases hk : k = d
        · rw [if_pos hk]
          show cnt ((if x.1 = k then (k, c) else x) :: r.map _) d = c
          by_cases hx : x.1 = k
          · rw [if_pos hx]
            show (if k = d then c else _) = _
            rw [if_pos hk]
          · rw [if_neg hx]
            show (if x.1 = d then x.2 else _) = _
            rw [if_neg (by rw [← hk]; exact hx)]
            have h2 : (r.any fun x => decide (x.1 = k)) = true := by
              rw [List.any_cons, decide_eq_false hx, Bool.false_or] at h
              exact h
            rw [ih h2, if_pos hk]
        · rw [if_neg hk]
          exact none _ hk
    exact key m h
  · rename_i h
    have out : ∀ x ∈ m, ¬ x.1 = k := fun x hx q => h (List.any_eq_true.mpr ⟨x, hx, decide_eq_true q⟩)
    by_cases hk : k = d
    · rw [if_pos hk, cnt_app_out (by rw [← hk]; exact out)]
      show (if k = d then c else _) = _
      rw [if_pos hk]
    · rw [if_neg hk, cnt_app_ne hk]
theorem good_dput {m : Vc} (g : Good m) {k c : Int} (h1 : 1 ≤ k) (h9 : k ≤ 9) (hc : 0 < c) : Good (dput m k c) := by
  unfold dput
  split
  · refine ⟨?_, fun x hx => ?_⟩
    · have e : (m.map fun x => if x.1 = k then (k, c) else x).map (·.1) = m.map (·.1) := by
        rw [List.map_map]
        refine List.map_congr_left fun x _ => ?_
        show (if x.1 = k then (k, c) else x).1 = x.1
        by_cases h : x.1 = k
        · rw [if_pos h, h]
        · rw [if_neg h]
      rw [e]; exact g.nd
    · obtain ⟨y, hy, rfl⟩ := List.mem_map.mp hx
      by_cases h : y.1 = k
      · rw [if_pos h]; exact ⟨h1, h9, hc⟩
      · rw [if_neg h]; exact g.rg y hy
  · rename_i h
    have out : ∀ x ∈ m, ¬ x.1 = k := fun x hx q => h (List.any_eq_true.mpr ⟨x, hx, decide_eq_true q⟩)
    refine ⟨?_, fun x hx => ?_⟩
    · rw [List.map_append, List.nodup_append]
      refine ⟨g.nd, by simp, fun a ha b hb => ?_⟩
      obtain ⟨x, hx, rfl⟩ := List.mem_map.mp ha
      have hb : b = k := by simpa using hb
      rw [hb]; exact out x hx
    · rcases List.mem_append.mp hx with hx | hx
      · exact g.rg x hx
      · rw [List.mem_singleton.mp hx]; exact ⟨h1, h9, hc⟩
theorem merge_kvl (v : Vc) : ∀ m : Vc, mergeK (kvl m) (kvl v) = kvl (v.foldl (fun m c => dput m c.1 c.2) m) := by
  induction v with
  | nil => intro m; rfl
  | cons x r ih =>
    intro m
    show mergeK (putK (kvl m) (Sum.inl x.1) (V.int x.2)) (kvl r) = _
    rw [putK_kvl, ih]
    rfl
theorem fold_good (v : Vc) (hv : ∀ c ∈ v, 1 ≤ c.1 ∧ c.1 ≤ 9 ∧ 0 < c.2) : ∀ m : Vc, Good m → Good (v.foldl (fun m c => dput m c.1 c.2) m) := by
  induction v with
  | nil => intro m g; exact g
  | cons x r ih =>
    intro m g
    have hx := hv x (List.mem_cons_self ..)
    exact ih (fun c hc => hv c (List.mem_cons_of_mem _ hc)) _ (good_dput g hx.1 hx.2.1 hx.2.2)
theorem fold_cnt (v : Vc) (d : Int) : ∀ m : Vc, cnt (v.foldl (fun m c => dput m c.1 c.2) m) d = told (fun c _ => c) v d (cnt m d) := by
  induction v with
  | nil => intro m; rfl
  | cons x r ih =>
    intro m
    show cnt (r.foldl (fun m c => dput m c.1 c.2) (dput m x.1 x.2)) d = told (fun c _ => c) r d (if x.1 = d then x.2 else cnt m d)
    rw [ih, cnt_dput]
theorem made_rg {f : Nat → Int} : ∀ c ∈ made f, 1 ≤ c.1 ∧ c.1 ≤ 9 ∧ 0 < c.2 := fun c hc => by
  obtain ⟨k, hk, rfl, h0⟩ := madeN_mem hc
  exact ⟨by show (1 : Int) ≤ ((k : Nat) : Int) + 1; omega, by show ((k : Nat) : Int) + 1 ≤ 9; omega, h0⟩
/-- a rising row of numbers from 1 to n is told by what is in it -/
theorem rising (n : Nat) : ∀ ys : List Int, ys.Pairwise (· < ·) → (∀ y ∈ ys, 1 ≤ y ∧ y ≤ n) → ys = ((List.range n).filter fun k => decide ((((k : Nat) : Int) + 1) ∈ ys)).map fun k => ((k : Nat) : Int) + 1 := by
  induction n with
  | zero =>
    intro ys _ h
    cases ys with
    | nil => rfl
    | cons y r => have := h y (List.mem_cons_self ..); omega
  | succ n ih =>
    intro ys hp h
    by_cases hm : (((n : Nat) : Int) + 1) ∈ ys
    · obtain ⟨u, w, e⟩ := List.append_of_mem hm
      have hw : w = [] := by
        cases w with
        | nil => rfl
        | cons z w =>
          rw [e, List.pairwise_append] at hp
          have h1 := (List.pairwise_cons.mp hp.2.1).1 z (List.mem_cons_self ..)
          have h2 := h z (by rw [e]; simp)
          omega
      subst hw
      have hu : u.Pairwise (· < ·) := by rw [e, List.pairwise_append] at hp; exact hp.1
      have hlt : ∀ y ∈ u, y < ((n : Nat) : Int) + 1 := fun y hy => by
        rw [e, List.pairwise_append] at hp
        exact hp.2.2 y hy _ (by simp)
      have iu := ih u hu fun y hy => ⟨(h y (by rw [e]; simp [hy])).1, by have := hlt y hy; omega⟩
      have ef : ((List.range (n + 1)).filter fun k => decide ((((k : Nat) : Int) + 1) ∈ ys)) = ((List.range n).filter fun k => decide ((((k : Nat) : Int) + 1) ∈ u)) ++ [n] := by
        have e1 : ((List.range n).filter fun k => decide ((((k : Nat) : Int) + 1) ∈ ys)) = ((List.range n).filter fun k => decide ((((k : Nat) : Int) + 1) ∈ u)) := by
          refine List.filter_congr fun k hk => ?_
          have hk := List.mem_range.mp hk
          refine decide_eq_decide.mpr ?_
          rw [e, List.mem_append, List.mem_singleton]
          exact ⟨fun q => q.resolve_right (by omega), .inl⟩
        rw [List.range_succ, List.filter_append, List.filter_cons_of_pos (by rw [decide_eq_true hm]), List.filter_nil, e1]
      rw [ef, List.map_append, ← iu, e]
      rfl
    · have iu := ih ys hp fun y hy => ⟨(h y hy).1, by
        have h1 := (h y hy).2
        have h2 : ¬ y = ((n : Nat) : Int) + 1 := fun q => hm (q ▸ hy)
        omega⟩
      rw [List.range_succ, List.filter_append, List.filter_cons_of_neg (by rw [decide_eq_false hm]; exact Bool.false_ne_true), List.filter_nil, List.append_nil]
      exact iu
/-- sorted keys with their counts -/
theorem vector_made {m : Vc} (g : Good m) {ys : List Int} (hp : ys.Perm (m.map (·.1))) (hs : ys.Pairwise (· ≤ ·)) : ys.map (fun y => (y, cnt m y)) = made fun k => cnt m (((k : Nat) : Int) + 1) := by
  have nd : ys.Nodup := hp.nodup_iff.mpr g.nd
  have lt : ys.Pairwise (· < ·) := by
    have := List.Pairwise.and hs nd
    exact this.imp fun h => by omega
  have mem : ∀ y, y ∈ ys ↔ ∃ c ∈ m, c.1 = y := fun y => by rw [hp.mem_iff, List.mem_map]
  have rg : ∀ y ∈ ys, 1 ≤ y ∧ y ≤ ((9 : Nat) : Int) := fun y hy => by
    obtain ⟨c, hc, rfl⟩ := (mem y).mp hy
    have := g.rg c hc
    omega
  have e := rising 9 ys lt rg
  have ef : ((List.range 9).filter fun k => decide ((((k : Nat) : Int) + 1) ∈ ys)) = ((List.range 9).filter fun k => decide (0 < cnt m (((k : Nat) : Int) + 1))) :=
    List.filter_congr fun k _ => decide_eq_decide.mpr ((mem _).trans (cnt_pos g))
  rw [ef] at e
  rw [e, List.map_map]
  rfl
theorem paired_imp {α β : Type} {R S : α → β → Prop} (h : ∀ a b, R a b → S a b) : ∀ {xs : List α} {ys : List β}, Paired R xs ys → Paired S xs ys
  | _, _, .nil => .nil
  | _, _, .cons a b => .cons (h _ _ a) (paired_imp h b)
theorem paired_get {α β : Type} {R : α → β → Prop} : ∀ {xs : List α} {ys : List β}, Paired R xs ys → ∀ (i : Nat) (x : α), xs[i]? = some x → ∃ y, ys[i]? = some y ∧ R x y
  | _, _, .nil, i, x, h => by simp at h
  | _, _, .cons a b, 0, x, h => by cases (Option.some.inj h); exact ⟨_, rfl, a⟩
  | _, _, .cons a b, i + 1, x, h => by
    obtain ⟨y, h1, h2⟩ := paired_get b i x (by simpa using h)
    exact ⟨y, by simpa using h1, h2⟩
theorem paired_len {α β : Type} {R : α → β → Prop} : ∀ {xs : List α} {ys : List β}, Paired R xs ys → xs.length = ys.length
  | _, _, .nil => rfl
  | _, _, .cons a b => by rw [List.length_cons, List.length_cons, paired_len b]
theorem paired_snoc {α β : Type} {R : α → β → Prop} : ∀ {xs : List α} {ys : List β} {x : α} {y : β}, Paired R xs ys → R x y → Paired R (xs ++ [x]) (ys ++ [y])
  | _, _, _, _, .nil, h => .cons h .nil
  | _, _, _, _, .cons a b, h => .cons a (paired_snoc b h)
abbrev Prs (K : PySem.W.Frag) (H : Hp) (ps : List Addr) (v : Vc) : Prop := Paired (fun p (c : Int × Int) => SqT K H p [.int c.1, .int c.2]) ps v
def Vec (K : PySem.W.Frag) (H : Hp) (a : Addr) (v : Vc) : Prop := ∃ ps : List Addr, SqT K H a (ps.map V.ref) ∧ Prs K H ps v
def PVec (K : PySem.W.Frag) (H : Hp) (a : Addr) (v : Vc) : Prop := ∃ ps : List Addr, PlT H a (ps.map V.ref) ∧ Prs K H ps v
theorem prs_same {K : PySem.W.Frag} {H H' : Hp} {ps : List Addr} {v : Vc} (e : Same H H') (h : Prs K H ps v) : Prs K H' ps v := paired_imp (fun _ _ q => same_tup e q) h
theorem Vec.same {K : PySem.W.Frag} {H H' : Hp} {a : Addr} {v : Vc} (h : Vec K H a v) (e : Same H H') : Vec K H' a v := by
  obtain ⟨ps, h1, h2⟩ := h
  exact ⟨ps, same_tup e h1, prs_same e h2⟩
theorem PVec.same {K : PySem.W.Frag} {H H' : Hp} {a : Addr} {v : Vc} (h : PVec K H a v) (e : Same H H') : PVec K H' a v := by
  obtain ⟨ps, h1, h2⟩ := h
  exact ⟨ps, h1.same e, prs_same e h2⟩
theorem PVec.vec {K : PySem.W.Frag} {H : Hp} {a : Addr} {v : Vc} (h : PVec K H a v) : Vec K H a v := by
  obtain ⟨ps, h1, h2⟩ := h
  exact ⟨ps, h1.seq, h2⟩
theorem for_vec {K : PySem.W.Frag} {g : TG} {t : TS} {D : Ends} {σ : L2.St} {H H0 : Hp} {a : Addr} {v : Vc} {ps : List Addr} (hS : SqT K H0 a (ps.map V.ref)) (hP : Prs K H0 ps v) (Pv : Vc → L2.St → Hp → Prop) (h0 : Pv [] σ H) (hl : ∀ pre σ H, Pv pre σ H → Same H0 H)
    (hs : ∀ (pre : Vc) (c : Int × Int) (post : Vc) (T : Addr) σ H, v = pre ++ c :: post → Pv pre σ H → SqT K H T [.int c.1, .int c.2] → g (.ref T) σ H fun σ2 H2 => t { D with nx := Pv (pre ++ [c]), ct := Pv (pre ++ [c]), bk := D.nx } σ2 H2)
    (hd : ∀ σ H, Pv v σ H → D.nx σ H) : ForB (Itt K a) g t D σ H := by
  refine for_tup (xs := ps.map V.ref) (fun i => Pv (v.take i)) (by simpa using h0) (fun i σ H _ p => same_tup (hl _ σ H p) hS) (fun i x σ H hx p => ?_) (fun σ H p => ?_)
  · rw [List.getElem?_map] at hx
    obtain ⟨T, hT, rfl⟩ := Option.map_eq_some_iff.mp hx
    obtain ⟨c, hc, q⟩ := paired_get hP i T hT
    have e2 := (List.getElem?_eq_some_iff.mp hc).2
    have e1 : v = v.take i ++ c :: v.drop (i + 1) := by rw [← e2, List.getElem_cons_drop, List.take_append_drop]
    rw [List.take_add_one, hc]
    exact hs _ c _ T σ H e1 p (same_tup (hl _ σ H p) q)
  · rw [List.length_map, paired_len hP, List.take_length] at p
    exact hd σ H p
def lessV (v w : Vc) : Bool := w.any fun c => decide (cnt v c.1 < c.2)
def cmpS (a b : Bool) : Str := if a = true then (if b = true then "apart" else "less") else if b = true then "greater" else "equal"
theorem dput_len (m : Vc) (k c : Int) : (dput m k c).length ≤ m.length + 1 := by
  unfold dput
  split <;> simp
theorem fold_len (v : Vc) : ∀ m : Vc, (v.foldl (fun m c => dput m c.1 c.2) m).length ≤ m.length + v.length := by
  induction v with
  | nil => intro m; exact Nat.le_refl _
  | cons x r ih =>
    intro m
    have h1 := ih (dput m x.1 x.2)
    have h2 := dput_len m x.1 x.2
    show (r.foldl (fun m c => dput m c.1 c.2) (dput m x.1 x.2)).length ≤ _
    rw [List.length_cons]
    omega
theorem made_len (f : Nat → Int) : (made f).length ≤ 9 := by
  unfold made madeN
  rw [List.length_map]
  exact Nat.le_trans (List.length_filter_le ..) (by rw [List.length_range]; exact Nat.le_refl _)
theorem made_congr {f g : Nat → Int} (h : ∀ k, k < 9 → f k = g k) : made f = made g := by
  unfold made madeN
  have e : ((List.range 9).filter fun k => decide (0 < f k)) = ((List.range 9).filter fun k => decide (0 < g k)) :=
    List.filter_congr fun k hk => by rw [h k (List.mem_range.mp hk)]
  rw [e]
  refine List.map_congr_left fun k hk => ?_
  rw [h k (List.mem_range.mp (List.mem_filter.mp hk).1)]
def row9 (f : Nat → Int) : List Int := (List.range 9).map f
def sp_count_of (K : PySem.W.Frag) : Sp := sp2 fun x y H Q => ∃ (a : Addr) (v : Vc) (d : Int), x = .ref a ∧ y = .int d ∧ Vec K H a v ∧ Q (.int (cnt v d)) H
def sp_is_less_somewhere (K : PySem.W.Frag) : Sp := sp2 fun x y H Q => ∃ (a b : Addr) (v w : Vc), x = .ref a ∧ y = .ref b ∧ Vec K H a v ∧ Vec K H b w ∧ Q (.bl (lessV v w)) H
def sp_compare (K : PySem.W.Frag) : Sp := sp2 fun x y H Q => ∃ (a b : Addr) (v w : Vc), x = .ref a ∧ y = .ref b ∧ Vec K H a v ∧ Vec K H b w ∧ Q (.str (cmpS (lessV v w) (lessV w v))) H
def sp_vector (K : PySem.W.Frag) : Sp := sp1 fun x H Q => ∃ (D : Addr) (m : Vc), x = .ref D ∧ H D = some (.dK (kvl m)) ∧ Good m ∧ m.length ≤ 40 ∧ ∀ (r : Addr) (H' : Hp), Same H H' → PVec K H' r (made fun k => cnt m (((k : Nat) : Int) + 1)) → Q (.ref r) H'
def sp_join (K : PySem.W.Frag) : Sp := sp2 fun x y H Q => ∃ (a b : Addr) (f g : Nat → Int), x = .ref a ∧ y = .ref b ∧ (∀ k, 0 ≤ f k) ∧ (∀ k, 0 ≤ g k) ∧ PVec K H a (made f) ∧ Vec K H b (made g) ∧ ∀ (r : Addr) (H' : Hp), Same H H' → PVec K H' r (made fun k => mx (f k) (g k)) → Q (.ref r) H'
def sp_raised (K : PySem.W.Frag) : Sp := sp3 fun x y z H Q => ∃ (a : Addr) (f : Nat → Int) (j : Nat) (n : Int), x = .ref a ∧ y = .int (((j : Nat) : Int) + 1) ∧ z = .int n ∧ j < 9 ∧ 0 < n ∧ (∀ k, 0 ≤ f k) ∧ PVec K H a (made f) ∧ ∀ (r : Addr) (H' : Hp), Same H H' → PVec K H' r (made fun k => if k = j then n else f k) → Q (.ref r) H'
def sp_counts_of (K : PySem.W.Frag) : Sp := sp1 fun x H Q => ∃ (a : Addr) (f : Nat → Int), x = .ref a ∧ (∀ k, 0 ≤ f k) ∧ Vec K H a (made f) ∧ ∀ (r : Addr) (H' : Hp), Same H H' → SqT K H' r ((row9 f).map V.int) → Q (.ref r) H'
def sp_law_cell (K : PySem.W.Frag) : Sp := sp2 fun x y H Q => ∃ (a : Addr) (ns : List Int) (i : Nat), x = .ref a ∧ y = .int i ∧ SqL K H a (ns.map V.int) ∧ ns.length ≤ 1000 ∧ i ≤ 1000 ∧ ∀ n, Q (.int n) H
def sp_law_vector (K : PySem.W.Frag) : Sp := sp2 fun x y H Q => ∃ n : Int, x = .int n ∧ y = .int 3 ∧ ∀ (r : Addr) (f : Nat → Int) (H' : Hp), Same H H' → (∀ k, 0 ≤ f k ∧ f k ≤ 3) → PVec K H' r (made f) → Q (.ref r) H'
def sp_law_counts (K : PySem.W.Frag) : Sp := sp1 fun x H Q => ∃ (a : Addr) (f : Nat → Int), x = .ref a ∧ (∀ k, 0 ≤ f k) ∧ Vec K H a (made f) ∧ ∀ (r : Addr) (H' : Hp), H r = none → Same H H' → H' r = some (.lst ((row9 f).map V.int)) → Q (.ref r) H'
def sp_law_due (K : PySem.W.Frag) : Sp := sp2 fun x y H Q => ∃ (a b : Addr) (f g : Nat → Int), x = .ref a ∧ y = .ref b ∧ SqL K H a ((row9 f).map V.int) ∧ SqL K H b ((row9 g).map V.int) ∧ ∀ H', Same H H' → Q (.str (cmpS (lessF 9 f g) (lessF 9 g f))) H'
def sp_law_made (K : PySem.W.Frag) : Sp := sp1 fun x H Q => ∃ (a : Addr) (f : Nat → Int), x = .ref a ∧ SqL K H a ((row9 f).map V.int) ∧ ∀ (r : Addr) (H' : Hp), Same H H' → Vec K H' r (made f) → Q (.ref r) H'
def sp_law (K : PySem.W.Frag) : Sp := sp1 fun a H Q => ∃ (sa : Addr) (ns : List Int), a = .ref sa ∧ SqL K H sa (ns.map V.int) ∧ ns.length ≤ 63 ∧ ∀ H', Q (.bl true) H'
theorem e_tDGet {td ty : TE} {σ : L2.St} {H : Hp} {Q : VK} (q : td σ H fun x H1 => ty σ H1 fun y H2 => ∃ a v, x = .ref a ∧ DGet H2 a y (some v) ∧ Q v H2) : tDGet td ty σ H Q := q
theorem e_tDGet2 {td ty tx : TE} {σ : L2.St} {H : Hp} {Q : VK} (q : td σ H fun x H1 => ∃ a, x = .ref a ∧ IsD H1 a ∧ ty σ H1 fun y H2 => tx σ H2 fun z H3 => ∃ o, DGet H3 a y o ∧ Q (o.getD z) H3) : tDGet2 td ty tx σ H Q := q
theorem e_sDPut {td ty tv : TE} {σ : L2.St} {H : Hp} {D : Ends} (q : tv σ H fun v H1 => td σ H1 fun x H2 => ty σ H2 fun y H3 => ∃ a H4, x = .ref a ∧ DPut H3 a y v H4 ∧ D.nx σ H4) : sDPut td ty tv D σ H := q
theorem dg_some {H : Hp} {D : Addr} {m : Vc} {d : Int} {Q : V → Prop} (h : H D = some (.dK (kvl m))) (hc : ∃ c ∈ m, c.1 = d) (q : Q (.int (cnt m d))) : ∃ a v, V.ref D = .ref a ∧ DGet H a (.int d) (some v) ∧ Q v := by
  obtain ⟨c, h1, h2⟩ := hc
  refine ⟨D, _, rfl, ?_, q⟩
  rw [← (valV_kvl m d).2 c h1 h2]
  exact DGet.k (k := Sum.inl d) h
theorem dg_or {H : Hp} {D : Addr} {m : Vc} {d : Int} {Q : Option V → Prop} (h : H D = some (.dK (kvl m))) (q : ∀ o : Option V, o.getD (.int 0) = .int (cnt m d) → Q o) : ∃ o, DGet H D (.int d) o ∧ Q o :=
  ⟨_, DGet.k (k := Sum.inl d) h, q _ (valV_kvl m d).1⟩
theorem dp_put {H : Hp} {D : Addr} {m : Vc} {k c : Int} {Q : Hp → Prop} (h : H D = some (.dK (kvl m))) (hl : m.length ≤ 100) (q : Q (upd H D (.dK (kvl (dput m k c))))) : ∃ a H4, V.ref D = .ref a ∧ DPut H a (.int k) (.int c) H4 ∧ Q H4 :=
  ⟨D, _, rfl, .inl ⟨kvl m, Sum.inl k, h, rfl, Nat.lt_of_le_of_lt (by unfold kvl; rw [List.length_map]; exact hl) (by decide), rfl⟩, by rw [putK_kvl]; exact q⟩
theorem prs_kvl {K : PySem.W.Frag} {H : Hp} : ∀ {ps : List Addr} {v : Vc}, Prs K H ps v → Paired (fun p (kv : Key × V) => SqT K H p [kV kv.1, kv.2]) ps (kvl v)
  | _, _, .nil => .nil
  | _, _, .cons a b => .cons a (prs_kvl b)
theorem dict_made {f : Nat → Int} (hf : ∀ k, 0 ≤ f k) : ∃ m, mergeK [] (kvl (made f)) = kvl m ∧ Good m ∧ m.length ≤ 9 ∧ ∀ k : Nat, k < 9 → cnt m (((k : Nat) : Int) + 1) = f k :=
  ⟨_, merge_kvl (made f) [], fold_good (made f) made_rg [] ⟨by simp, fun c hc => by cases hc⟩, Nat.le_trans (fold_len (made f) []) (by rw [List.length_nil, Nat.zero_add]; exact made_len f), fun k hk => by rw [fold_cnt]; exact last_made hf hk⟩
abbrev Prx (H : Hp) (ps : List Addr) (v : Vc) : Prop := Paired (fun p (c : Int × Int) => H p = some (.tup [.int c.1, .int c.2])) ps v
theorem Prx.upd {H : Hp} {ps : List Addr} {v : Vc} {E : Addr} {l : List V} {o : HO} (h : Prx H ps v) (e : H E = some (.lst l)) : Prx (upd H E o) ps v :=
  paired_imp (fun p c q => by
    have n : p ≠ E := fun z => by
      rw [z, e] at q
      cases q
    rw [upd_ne n]; exact q) h
theorem Prx.same {H H' : Hp} {ps : List Addr} {v : Vc} (h : Prx H ps v) (e : Same H H') : Prx H' ps v := paired_imp (fun _ _ q => e _ _ q) h
theorem Prx.prs {K : PySem.W.Frag} {H : Hp} {ps : List Addr} {v : Vc} (h : Prx H ps v) : Prs K H ps v := paired_imp (fun _ _ q => SqT.of q) h
theorem row9_at (f : Nat → Int) {i : Nat} (h : i < 9) {j : Int} (hj : j = i) : atI ((row9 f).map V.int) j = some (.int (f i)) :=
  at_of (j := i) hj (by rw [List.getElem?_map, row9, List.getElem?_map, List.getElem?_range h]; rfl)
theorem row9_set (f : Nat → Int) {i : Nat} (h : i < 9) (n : Int) : (row9 f).set i n = row9 fun k => if k = i then n else f k := by
  refine List.ext_getElem? fun k => ?_
  rw [List.getElem?_set]
  unfold row9
  by_cases hk : k < 9
  · have r1 : ((List.range 9).map fun k => if k = i then n else f k)[k]? = some (if k = i then n else f k) := by rw [List.getElem?_map, List.getElem?_range hk]; rfl
    have r2 : ((List.range 9).map f)[k]? = some (f k) := by rw [List.getElem?_map, List.getElem?_range hk]; rfl
    rw [r1, r2]
    by_cases e : i = k
    · rw [if_pos e, if_pos (by simp; omega), if_pos e.symm]
    · rw [if_neg e, if_neg fun q => e q.symm]
  · rw [List.getElem?_eq_none (l := (List.range 9).map fun k => if k = i then n else f k) (by simp; omega)]
    by_cases e : i = k
    · omega
    · rw [if_neg e, List.getElem?_eq_none (by simp; omega)]
theorem row9_inj {f g : Nat → Int} (h : ∀ k, k < 9 → f k = g k) : row9 f = row9 g := List.map_congr_left fun k hk => h k (List.mem_range.mp hk)
theorem row9_len (f : Nat → Int) : ((row9 f).map V.int).length = 9 := by unfold row9; simp
theorem p2 (n : Int) {i : Nat} (h : i < 9) : CDivW n (1 * 2 ^ (1 + (i : Int)).toNat) := by
  have e : (1 + (i : Int)).toNat = i + 1 := by omega
  rw [e]
  have : i = 0 ∨ i = 1 ∨ i = 2 ∨ i = 3 ∨ i = 4 ∨ i = 5 ∨ i = 6 ∨ i = 7 ∨ i = 8 := by omega
  rcases this with h | h | h | h | h | h | h | h | h <;> rw [h] <;> exact ⟨by decide, by decide⟩
theorem lc_filt {K : PySem.W.Frag} {g : TG} {tt : TT} {te : TE} {vs : List Nat} {σ : L2.St} {Da : Addr} {H0 : Hp} {Q : VK} {lo : Int} {n : Nat} (hD : H0 Da = none) (hn : n ≤ 1000000) (p : Nat → Bool) (f : Nat → V)
    (hs : ∀ (i : Nat) (H2 : Hp) (C : VK) (E : Hp → Prop), i < n → Same H0 H2 → (p i = true → ∀ H3, Same H2 H3 → C (f i) H3) → (p i = false → ∀ H3, Same H2 H3 → E H3) →
      g (.int (lo + (i : Nat))) (wipe σ vs) H2 fun σ2 H2 => wipe σ2 vs = wipe σ vs ∧ tt σ2 H2 fun b H3 => if b = true then te σ2 H3 C else E H3)
    (hd : ∀ (H : Hp), Same H0 H → H Da = some (.lst (((List.range n).filter p).map f)) → Q (.ref Da) H) : LcB (Itr lo n) g tt te vs σ Da H0 Q := by
  refine lc_rng (fun i H2 => Same H0 H2 ∧ H2 Da = some (.lst (((List.range i).filter p).map f))) ⟨same_new hD, upd_same⟩ (fun i H2 hi q => ?_) (fun H2 q => hd H2 q.1 q.2)
  obtain ⟨s4, e4⟩ := q
  refine hs i H2 _ _ hi s4 (fun hp H3 s5 => ?_) (fun hp H3 s5 => ?_)
  · refine ⟨_, s5 _ _ e4, Nat.lt_of_le_of_lt (Nat.le_trans (by rw [List.length_map]; exact List.length_filter_le ..) (by rw [List.length_range]; omega : _ ≤ 1000000)) (by decide), Same.mut (s4.trans s5) hD, ?_⟩
    rw [upd_same, List.range_succ, List.filter_append, List.filter_cons_of_pos hp, List.map_append]
    rfl
  · refine ⟨s4.trans s5, ?_⟩
    rw [s5 _ _ e4, List.range_succ, List.filter_append, List.filter_cons_of_neg (by rw [hp]; exact Bool.false_ne_true), List.filter_nil, List.append_nil]
theorem nil_less (f g : Nat → Int) (h : Nat → Int) : decide ((((List.range 9).filter fun k => decide (f k < g k)).map h) = []) = !lessF 9 f g := by
  unfold lessF
  cases e : (List.range 9).any fun k => decide (f k < g k) with
  | true =>
    obtain ⟨k, hk, q⟩ := List.any_eq_true.mp e
    refine decide_eq_false fun z => ?_
    have : (List.range 9).filter (fun k => decide (f k < g k)) = [] := List.map_eq_nil_iff.mp z
    have m : k ∈ (List.range 9).filter (fun k => decide (f k < g k)) := List.mem_filter.mpr ⟨hk, q⟩
    rw [this] at m
    cases m
  | false =>
    refine decide_eq_true ?_
    rw [List.filter_eq_nil_iff.mpr fun k hk => by
      have := List.any_eq_false.mp e k hk
      exact this]
    rfl
/-! vectors as data -/
abbrev Dv (v : Vc) : List PyData := v.map fun c => .tuple [.int c.1, .int c.2]
theorem dv_all {K : PySem.W.Frag} {H : Hp} : ∀ {ps : List Addr} {v : Vc}, Prs K H ps v → DpAll K H (ps.map V.ref) (Dv v)
  | _, _, .nil => .nil
  | _, _, .cons (b := c) a b => .cons (.tup (xs := [.int c.1, .int c.2]) a (.cons (.int _) (.cons (.int _) .nil))) (dv_all b)
theorem dv_eqv : ∀ v w : Vc, PyData.eqvAll (Dv v) (Dv w) = decide (v = w)
  | [], [] => by
    simp [PyData.eqvAll]
  | [], _ :: _ => by
    simp [PyData.eqvAll]
  | _ :: _, [] => by
    simp [PyData.eqvAll]
  | c :: v, d :: w => by
    have ih := dv_eqv v w
    show (PyData.eqvAll (Di [c.1, c.2]) (Di [d.1, d.2]) && PyData.eqvAll (Dv v) (Dv w)) = _
    rw [ih, eqvAll_ints]
    obtain ⟨c1, c2⟩ := c
    obtain ⟨d1, d2⟩ := d
    by_cases h1 : c1 = d1 <;> by_cases h2 : c2 = d2 <;> by_cases h3 : v = w <;> simp [h1, h2, h3]
theorem dv_can : ∀ v : Vc, PyData.canLayAll0 (Dv v) = true
  | [] => rfl
  | c :: v => by
    show (PyData.canLayAll0 (Di [c.1, c.2]) && PyData.canLayAll0 (Dv v)) = true
    rw [dv_can v, canAll_ints]; rfl
theorem dv_depth : ∀ v : Vc, PyData.depthAll (Dv v) ≤ 1
  | [] => by
    show 0 ≤ 1
    omega
  | c :: v => by
    have ih := dv_depth v
    show max (PyData.depthAll (Di [c.1, c.2]) + 1) (PyData.depthAll (Dv v)) ≤ 1
    rw [Vf.depthAll_ints]
    omega
theorem e_neVV {K : PySem.W.Frag} {H : Hp} {Q : VK} {a b : Addr} {v w : Vc} (h1 : Vec K H a v) (h2 : Vec K H b w) (q : Q (.bl (!decide (v = w))) H) : rNeD K (.ref a) (.ref b) H Q := by
  obtain ⟨ps, s1, p1⟩ := h1
  obtain ⟨qs, s2, p2⟩ := h2
  refine ⟨_, _, .tup s1 (dv_all p1), .tup s2 (dv_all p2), shaped_tuple (dv_can v) (Nat.le_trans (dv_depth v) (by decide)), shaped_tuple (dv_can w) (Nat.le_trans (dv_depth w) (by decide)), ?_⟩
  rw [show PyData.eqv (.tuple (Dv v)) (.tuple (Dv w)) = PyData.eqvAll (Dv v) (Dv w) from rfl, dv_eqv]
  exact q
theorem e_tFld {K : PySem.W.Frag} {ta : TE} {f : Str} {σ : L2.St} {H : Hp} {Q : VK} (q : ta σ H fun x H1 => ∃ a C dx fs v, x = .ref a ∧ H1 a = some (.ins C dx fs) ∧ Cls K C ∧ NoAttr K C f ∧ fs.lookup f = some v ∧ Q v H1) : tFld K ta f σ H Q := q
theorem e_sFld {K : PySem.W.Frag} {ta tv : TE} {f : Str} {D : Ends} {σ : L2.St} {H : Hp} (q : tv σ H fun y H1 => ta σ H1 fun x H2 => ∃ a C dx fs, x = .ref a ∧ H2 a = some (.ins C dx fs) ∧ Cls K C ∧ NoAttr K C f ∧ fs.length < 1000 ∧ D.nx σ (upd H2 a (.ins C dx (putF f y fs)))) : sFld K ta tv f D σ H := q
theorem e_maxF {K : PySem.W.Frag} {sp : Sp} {ta : TA} {σ : L2.St} {H : Hp} {Q : VK} (q : ta σ H fun vs H1 => rMaxF K sp vs H1 Q) : tMaxF K sp ta σ H Q := q
theorem e_js {t : TE} {ts : List TE} {acc : Str} {σ : L2.St} {H : Hp} {Q : Str → Hp → Prop} (q : t σ H fun x H1 => ∃ y : Str, x = .str y ∧ (acc ++ y).length ≤ sizeLine ∧ tJs ts (acc ++ y) σ H1 Q) : tJs (t :: ts) acc σ H Q := q
theorem e_js0 {acc : Str} {σ : L2.St} {H : Hp} {Q : Str → Hp → Prop} (q : Q acc H) : tJs [] acc σ H Q := q
theorem e_fmt {te : TE} {σ : L2.St} {H : Hp} {Q : VK} (q : te σ H fun x H1 => (∃ y : Str, x = .str y ∧ y.length ≤ sizeLine ∧ Q (.str y) H1) ∨ ∃ i : Int, x = .int i ∧ i.natAbs.log2 < 1920 ∧ Q (.str (toString i)) H1) : tFmt te σ H Q := q
mutual
theorem dp_same {K : PySem.W.Frag} {H H' : Hp} (e : Same H H') : ∀ {v : V} {d : PyData}, Dp K H v d → Dp K H' v d
  | _, _, .non => .non
  | _, _, .bl b => .bl b
  | _, _, .int i => .int i
  | _, _, .str x => .str x
  | _, _, .lst h a => .lst (e.seq h) (dpa_same e a)
  | _, _, .tup h a => .tup (same_tup e h) (dpa_same e a)
theorem dpa_same {K : PySem.W.Frag} {H H' : Hp} (e : Same H H') : ∀ {v : List V} {d : List PyData}, DpAll K H v d → DpAll K H' v d
  | _, _, .nil => .nil
  | _, _, .cons a b => .cons (dp_same e a) (dpa_same e b)
end
/-! entries -/
abbrev cEnt (K : PySem.W.Frag) : Addr := He.ga K "Entry"
structure ET (K : PySem.W.Frag) : Prop where
  cl : Cls K (cEnt K)
  n1 : NoAttr K (cEnt K) "name"
  n2 : NoAttr K (cEnt K) "vector"
  n3 : NoAttr K (cEnt K) "height"
  n4 : NoAttr K (cEnt K) "maker"
  n5 : NoAttr K (cEnt K) "deleted"
  n6 : NoAttr K (cEnt K) "time"
  n7 : NoAttr K (cEnt K) "blocks"
structure En where
  nm : Str
  f : Nat → Int
  ht : Int
  mr : Int × Int
  dl : Bool
  tm : Int
  bl : List Int
def fs7 (n v h m d t b : V) : List (Str × V) := putF "blocks" b (putF "time" t (putF "deleted" d (putF "maker" m (putF "height" h (putF "vector" v (putF "name" n []))))))
def VecB (p : Bool) (K : PySem.W.Frag) (H : Hp) (v : Addr) (w : Vc) : Prop := Vec K H v w ∧ (p = true → PVec K H v w)
theorem VecB.same {p : Bool} {K : PySem.W.Frag} {H H' : Hp} {v : Addr} {w : Vc} (h : VecB p K H v w) (e : Same H H') : VecB p K H' v w := ⟨h.1.same e, fun z => (h.2 z).same e⟩
theorem VecB.of {p : Bool} {K : PySem.W.Frag} {H : Hp} {v : Addr} {w : Vc} (h : PVec K H v w) : VecB p K H v w := ⟨h.vec, fun _ => h⟩
def Ent (K : PySem.W.Frag) (H : Hp) (p : Bool) (a : Addr) (e : En) : Prop := ∃ (dx v m b : Addr) (fs : List (Str × V)), H a = some (.ins (cEnt K) dx fs) ∧
  (fs.lookup ("name" : Str) = some (.str e.nm) ∧ fs.lookup ("vector" : Str) = some (.ref v) ∧ fs.lookup ("height" : Str) = some (.int e.ht) ∧ fs.lookup ("maker" : Str) = some (.ref m) ∧ fs.lookup ("deleted" : Str) = some (.bl e.dl) ∧ fs.lookup ("time" : Str) = some (.int e.tm) ∧ fs.lookup ("blocks" : Str) = some (.ref b)) ∧
  VecB p K H v (made e.f) ∧ SqT K H m [.int e.mr.1, .int e.mr.2] ∧ SqT K H b (e.bl.map V.int)
theorem Ent.same {K : PySem.W.Frag} {H H' : Hp} {p : Bool} {a : Addr} {e : En} (h : Ent K H p a e) (s : Same H H') : Ent K H' p a e := by
  obtain ⟨dx, v, m, b, fs, h1, h2, h3, h4, h5⟩ := h
  exact ⟨dx, v, m, b, fs, s _ _ h1, h2, h3.same s, same_tup s h4, same_tup s h5⟩
theorem Ent.weak {K : PySem.W.Frag} {H : Hp} {p : Bool} {a : Addr} {e : En} (h : Ent K H p a e) : Ent K H false a e := by
  obtain ⟨dx, v, m, b, fs, h1, h2, h3, h4, h5⟩ := h
  exact ⟨dx, v, m, b, fs, h1, h2, ⟨h3.1, fun z => nomatch z⟩, h4, h5⟩
theorem sq_updE {K : PySem.W.Frag} {H : Hp} {p E : Addr} {xs l : List V} {o : HO} (h : SqT K H p xs) (e : H E = some (.lst l)) : SqT K (upd H E o) p xs := by
  rcases h with (h | ⟨c9, h⟩) | h
  · exact .inl (.inl (by rw [upd_ne (fun z => by rw [z, e] at h; cases h)]; exact h))
  · exact .inl (.inr ⟨c9, by rw [upd_ne (fun z => by rw [z, e] at h; cases h)]; exact h⟩)
  · exact .inr h
theorem pl_updE {H : Hp} {p E : Addr} {xs l : List V} {o : HO} (h : PlT H p xs) (e : H E = some (.lst l)) : PlT (upd H E o) p xs := by
  obtain ⟨c9, hd, h⟩ := h
  exact ⟨c9, hd, by rw [upd_ne (fun z => by rw [z, e] at h; cases h)]; exact h⟩
theorem prs_updE {K : PySem.W.Frag} {H : Hp} {E : Addr} {l : List V} {o : HO} {ps : List Addr} {v : Vc} (h : Prs K H ps v) (e : H E = some (.lst l)) : Prs K (upd H E o) ps v := paired_imp (fun _ _ q => sq_updE q e) h
theorem Ent.updE {K : PySem.W.Frag} {H : Hp} {p : Bool} {a E : Addr} {e : En} {l : List V} {o : HO} (h : Ent K H p a e) (he : H E = some (.lst l)) : Ent K (upd H E o) p a e := by
  obtain ⟨dx, v, m, b, fs, h1, h2, ⟨⟨ps, q1, q2⟩, h3⟩, h4, h5⟩ := h
  refine ⟨dx, v, m, b, fs, by rw [upd_ne (fun z => by rw [z, he] at h1; cases h1)]; exact h1, h2, ⟨⟨ps, sq_updE q1 he, prs_updE q2 he⟩, fun z => ?_⟩, sq_updE h4 he, sq_updE h5 he⟩
  obtain ⟨qs, r1, r2⟩ := h3 z
  exact ⟨qs, pl_updE r1 he, prs_updE r2 he⟩
section
variable {K : PySem.W.Frag} {H : Hp} {p : Bool} {a : Addr} {e : En} {P : V → Prop}
theorem f_name (t : ET K) (h : Ent K H p a e) (q : P (.str e.nm)) : ∃ a' C dx fs v, V.ref a = .ref a' ∧ H a' = some (.ins C dx fs) ∧ Cls K C ∧ NoAttr K C "name" ∧ fs.lookup ("name" : Str) = some v ∧ P v := by
  obtain ⟨dx, v, m, b, fs, h1, h2, h3, h4, h5⟩ := h
  exact ⟨a, _, dx, fs, _, rfl, h1, t.cl, t.n1, h2.1, q⟩
theorem f_vector (t : ET K) (h : Ent K H p a e) (q : ∀ v, VecB p K H v (made e.f) → P (.ref v)) : ∃ a' C dx fs v, V.ref a = .ref a' ∧ H a' = some (.ins C dx fs) ∧ Cls K C ∧ NoAttr K C "vector" ∧ fs.lookup ("vector" : Str) = some v ∧ P v := by
  obtain ⟨dx, v, m, b, fs, h1, h2, h3, h4, h5⟩ := h
  exact ⟨a, _, dx, fs, _, rfl, h1, t.cl, t.n2, h2.2.1, q v h3⟩
theorem f_height (t : ET K) (h : Ent K H p a e) (q : P (.int e.ht)) : ∃ a' C dx fs v, V.ref a = .ref a' ∧ H a' = some (.ins C dx fs) ∧ Cls K C ∧ NoAttr K C "height" ∧ fs.lookup ("height" : Str) = some v ∧ P v := by
  obtain ⟨dx, v, m, b, fs, h1, h2, h3, h4, h5⟩ := h
  exact ⟨a, _, dx, fs, _, rfl, h1, t.cl, t.n3, h2.2.2.1, q⟩
theorem f_maker (t : ET K) (h : Ent K H p a e) (q : ∀ m, SqT K H m [.int e.mr.1, .int e.mr.2] → P (.ref m)) : ∃ a' C dx fs v, V.ref a = .ref a' ∧ H a' = some (.ins C dx fs) ∧ Cls K C ∧ NoAttr K C "maker" ∧ fs.lookup ("maker" : Str) = some v ∧ P v := by
  obtain ⟨dx, v, m, b, fs, h1, h2, h3, h4, h5⟩ := h
  exact ⟨a, _, dx, fs, _, rfl, h1, t.cl, t.n4, h2.2.2.2.1, q m h4⟩
theorem f_deleted (t : ET K) (h : Ent K H p a e) (q : P (.bl e.dl)) : ∃ a' C dx fs v, V.ref a = .ref a' ∧ H a' = some (.ins C dx fs) ∧ Cls K C ∧ NoAttr K C "deleted" ∧ fs.lookup ("deleted" : Str) = some v ∧ P v := by
  obtain ⟨dx, v, m, b, fs, h1, h2, h3, h4, h5⟩ := h
  exact ⟨a, _, dx, fs, _, rfl, h1, t.cl, t.n5, h2.2.2.2.2.1, q⟩
theorem f_time (t : ET K) (h : Ent K H p a e) (q : P (.int e.tm)) : ∃ a' C dx fs v, V.ref a = .ref a' ∧ H a' = some (.ins C dx fs) ∧ Cls K C ∧ NoAttr K C "time" ∧ fs.lookup ("time" : Str) = some v ∧ P v := by
  obtain ⟨dx, v, m, b, fs, h1, h2, h3, h4, h5⟩ := h
  exact ⟨a, _, dx, fs, _, rfl, h1, t.cl, t.n6, h2.2.2.2.2.2.1, q⟩
theorem f_blocks (t : ET K) (h : Ent K H p a e) (q : ∀ b, SqT K H b (e.bl.map V.int) → P (.ref b)) : ∃ a' C dx fs v, V.ref a = .ref a' ∧ H a' = some (.ins C dx fs) ∧ Cls K C ∧ NoAttr K C "blocks" ∧ fs.lookup ("blocks" : Str) = some v ∧ P v := by
  obtain ⟨dx, v, m, b, fs, h1, h2, h3, h4, h5⟩ := h
  exact ⟨a, _, dx, fs, _, rfl, h1, t.cl, t.n7, h2.2.2.2.2.2.2, q b h5⟩
end
theorem fs7_ok (n v h m d t b : V) : (fs7 n v h m d t b).lookup ("name" : Str) = some n ∧ (fs7 n v h m d t b).lookup ("vector" : Str) = some v ∧ (fs7 n v h m d t b).lookup ("height" : Str) = some h ∧ (fs7 n v h m d t b).lookup ("maker" : Str) = some m ∧
    (fs7 n v h m d t b).lookup ("deleted" : Str) = some d ∧ (fs7 n v h m d t b).lookup ("time" : Str) = some t ∧ (fs7 n v h m d t b).lookup ("blocks" : Str) = some b := by
  unfold fs7
  refine ⟨?_, ?_, ?_, ?_, ?_, ?_, ?_⟩ <;> (repeat (rw [lookup_putF]; first | rw [if_pos rfl] | rw [if_neg (by decide)]))
/-- a new entry -/
theorem ent_made {K : PySem.W.Frag} {H : Hp} {p : Bool} {a v m b dx : Addr} (e : En) (h : H a = some (.ins (cEnt K) dx (fs7 (.str e.nm) (.ref v) (.int e.ht) (.ref m) (.bl e.dl) (.int e.tm) (.ref b)))) (hv : VecB p K H v (made e.f)) (hm : SqT K H m [.int e.mr.1, .int e.mr.2]) (hb : SqT K H b (e.bl.map V.int)) : Ent K H p a e :=
  ⟨dx, v, m, b, _, h, fs7_ok .., hv, hm, hb⟩
def sp_Entry___init__ (K : PySem.W.Frag) : Sp := fun vs H Q _ => ∃ x n v h m d t b, vs = [x, n, v, h, m, d, t, b] ∧ ∃ a dx, x = .ref a ∧ H a = some (.ins (cEnt K) dx []) ∧ Q .non (upd H a (.ins (cEnt K) dx (fs7 n v h m d t b)))
theorem e_mkE {K : PySem.W.Frag} {H1 : Hp} {P : Addr → Hp → Prop} {n v h m d t b : V} (q : ∀ a H' dx, H1 a = none → Same H1 H' → H' a = some (.ins (cEnt K) dx (fs7 n v h m d t b)) → P a H') :
    ∀ x dx, H1 x = none → H1 dx = none → dx ≠ x → sp_Entry___init__ K (.ref x :: ([n, v, h, m, d, t, b] ++ [])) (upd (upd H1 dx (.own x)) x (.ins (cEnt K) dx [])) (fun u H2 => u = .non ∧ P x H2) E0 := by
  intro x dx hx hdx ne
  refine ⟨_, _, _, _, _, _, _, _, rfl, x, dx, rfl, upd_same, rfl, ?_⟩
  rw [upd_upd]
  exact q x _ dx hx (Same.mut (same_new hdx) hx) upd_same
def enEq (e g : En) : Bool := decide (e.nm = g.nm) && (decide (made e.f = made g.f) && (decide (e.ht = g.ht) && (decide (e.mr = g.mr) && ((e.dl == g.dl) && (decide (e.tm = g.tm) && decide (e.bl = g.bl))))))
def sp_Entry___eq__ (K : PySem.W.Frag) : Sp := sp2 fun x y H Q => ∃ (a : Addr) (p : Bool) (e : En), x = .ref a ∧ Ent K H p a e ∧
  ((∃ (b : Addr) (p2 : Bool) (g : En), y = .ref b ∧ Ent K H p2 b g ∧ Q (.bl (enEq e g)) H) ∨ (∃ (t : Addr) (ys : List V), y = .ref t ∧ H t = some (.lst ys) ∧ Q (.bl false) H))
/-- two entries compared -/
theorem e_eqEE {K : PySem.W.Frag} {H : Hp} {Q : VK} {a b : Addr} {p p2 : Bool} {e g : En} (h1 : Ent K H p a e) (h2 : Ent K H p2 b g) (q : Q (.bl (enEq e g)) H) : rEqOL K (cEnt K) (sp_Entry___eq__ K) E0 (.ref a) (.ref b) H Q := by
  obtain ⟨dx, v, m, bb, fs, k1, _⟩ := id h1
  obtain ⟨dy, v2, m2, bb2, gs, k2, _⟩ := id h2
  exact ⟨a, b, dx, fs, rfl, rfl, k1, .inl ⟨dy, gs, k2⟩, _, _, rfl, a, p, e, rfl, h1, .inl ⟨b, p2, g, rfl, h2, _, rfl, q⟩⟩
theorem enEq_self (e : En) : enEq e e = true := by
  unfold enEq
  simp
/-! keys -/
def KeyT (K : PySem.W.Frag) (H : Hp) (r : Addr) (e : En) : Prop := ∃ c, SqT K H r [.int e.ht, .int e.tm, .int (if e.dl = true then 0 else 1), .int (-e.mr.1), .int (-e.mr.2), .ref c] ∧ SqT K H c ((row9 e.f).map V.int)
def kdE (e : En) : PyData := .tuple [.int e.ht, .int e.tm, .int (if e.dl = true then 0 else 1), .int (-e.mr.1), .int (-e.mr.2), .tuple (Di (row9 e.f))]
theorem key_dp {K : PySem.W.Frag} {H : Hp} {r : Addr} {e : En} (h : KeyT K H r e) : Dp K H (.ref r) (kdE e) := by
  obtain ⟨c, h1, h2⟩ := h
  exact .tup h1 (.cons (.int _) (.cons (.int _) (.cons (.int _) (.cons (.int _) (.cons (.int _) (.cons (dp_ti h2) .nil))))))
theorem KeyT.same {K : PySem.W.Frag} {H H' : Hp} {r : Addr} {e : En} (h : KeyT K H r e) (s : Same H H') : KeyT K H' r e := by
  obtain ⟨c, h1, h2⟩ := h
  exact ⟨c, same_tup s h1, same_tup s h2⟩
theorem kdE_plain (e : En) : (kdE e).plain = true := by simp [kdE, PyData.plain, PyData.plainAll, plain_ints]
theorem kdE_depth (e : En) : (kdE e).depth ≤ 60 := by
  show PyData.depthAll [.int e.ht, .int e.tm, .int (if e.dl = true then 0 else 1), .int (-e.mr.1), .int (-e.mr.2), .tuple (Di (row9 e.f))] + 1 ≤ 60
  simp [PyData.depthAll, PyData.depth, Vf.depthAll_ints]
theorem kdE_self (e : En) : PyData.eqv (kdE e) (kdE e) = true := by simp [kdE, PyData.eqv, PyData.eqvAll, eqvAll_ints]
theorem kdE_alike (e g : En) : PySem.W.alike (kdE e) (kdE g) = true := by simp [kdE, PySem.W.alike, PySem.W.alikeAll, alikeAll_ints]
def spKey (K : PySem.W.Frag) : Sp := sp1 fun x H Q => ∃ (a : Addr) (p : Bool) (e : En), x = .ref a ∧ Ent K H p a e ∧ (∀ k, 0 ≤ e.f k) ∧ ∀ (r : Addr) (H' : Hp), Same H H' → KeyT K H' r e → Q (.ref r) H'
abbrev sp_key_of := spKey
abbrev sp_law_key := spKey
def alk (e g : En) : Bool := (e.dl == g.dl) && decide (e.bl = g.bl)
def sp_alike (K : PySem.W.Frag) : Sp := sp2 fun x y H Q => ∃ (a b : Addr) (p p2 : Bool) (e g : En), x = .ref a ∧ y = .ref b ∧ Ent K H p a e ∧ Ent K H p2 b g ∧ Q (.bl (alk e g)) H
abbrev Ents (K : PySem.W.Frag) (H : Hp) (p : Bool) (ps : List Addr) (es : List En) : Prop := Paired (fun a e => Ent K H p a e) ps es
theorem ents_same {K : PySem.W.Frag} {H H' : Hp} {p : Bool} {ps : List Addr} {es : List En} (s : Same H H') (h : Ents K H p ps es) : Ents K H' p ps es := paired_imp (fun _ _ q => q.same s) h
def dE : En := ⟨"", fun _ => 0, 0, (0, 0), false, 0, []⟩
def kdL (es : List En) (i : Nat) : PyData := kdE (es.getD i dE)
def enB (es : List En) : En := es.getD (mxI (kdL es) es.length) dE
def wf (es : List En) (b : En) (f : Nat → Int) : Nat → Int := es.foldl (fun f e => if alk e b = true then fun k => mx (f k) (e.f k) else f) f
def winE (es : List En) : En := { enB es with f := wf es (enB es) (enB es).f }
def spWin (K : PySem.W.Frag) : Sp := sp1 fun x H Q => ∃ (a : Addr) (ps : List Addr) (es : List En), x = .ref a ∧ SqL K H a (ps.map V.ref) ∧ Ents K H true ps es ∧ (∀ e ∈ es, ∀ k, 0 ≤ e.f k) ∧ 0 < es.length ∧ es.length ≤ 100 ∧
  ∀ (r : Addr) (H' : Hp), Same H H' → Ent K H' true r (winE es) → Q (.ref r) H'
abbrev sp_winner := spWin
abbrev sp_law_winner := spWin
/-! the mathematics of winners -/
theorem fold_up (k : Nat) : ∀ (l : List En) (x y : Int), (∃ e ∈ l, x ≤ e.f k) → y ≤ x → l.foldl (fun x e => mx x (e.f k)) x = l.foldl (fun x e => mx x (e.f k)) y
  | [], x, y, h, _ => by obtain ⟨e, he, _⟩ := h; cases he
  | e :: r, x, y, h, hy => by
    show r.foldl _ (mx x (e.f k)) = r.foldl _ (mx y (e.f k))
    by_cases hx : x ≤ e.f k
    · have e1 : mx x (e.f k) = e.f k := by unfold mx; split <;> omega
      have e2 : mx y (e.f k) = e.f k := by unfold mx; split <;> omega
      rw [e1, e2]
    · have e1 : mx x (e.f k) = x := by unfold mx; split <;> omega
      have e2 : mx y (e.f k) ≤ x := by unfold mx; split <;> omega
      rw [e1]
      refine fold_up k r x _ ?_ e2
      obtain ⟨g, hg, h⟩ := h
      rcases List.mem_cons.mp hg with rfl | hg
      · exact absurd h hx
      · exact ⟨g, hg, h⟩
theorem wf_at (b : En) (k : Nat) : ∀ (es : List En) (f : Nat → Int), wf es b f k = (es.filter fun e => alk e b).foldl (fun x e => mx x (e.f k)) (f k)
  | [], f => rfl
  | e :: r, f => by
    show wf r b (if alk e b = true then fun k => mx (f k) (e.f k) else f) k = _
    rw [wf_at b k r]
    by_cases h : alk e b = true
    · rw [if_pos h, List.filter_cons_of_pos (p := fun e => alk e b) h]; rfl
    · rw [if_neg h, List.filter_cons_of_neg (p := fun e => alk e b) h]
theorem alk_self (e : En) : alk e e = true := by unfold alk; simp
theorem wf_zero {es : List En} {b : En} (hb : b ∈ es) (hn : ∀ k, 0 ≤ b.f k) : wf es b b.f = wf es b fun _ => 0 := by
  funext k
  rw [wf_at, wf_at]
  exact fold_up k _ _ _ ⟨b, List.mem_filter.mpr ⟨hb, alk_self b⟩, Int.le_refl _⟩ (hn k)
theorem wf_nn {es : List En} {b : En} (he : ∀ e ∈ es, ∀ k, 0 ≤ e.f k) : ∀ {f : Nat → Int}, (∀ k, 0 ≤ f k) → ∀ k, 0 ≤ wf es b f k := by
  induction es with
  | nil => intro f hf; exact hf
  | cons e r ih =>
    intro f hf
    show ∀ k, 0 ≤ wf r b (if alk e b = true then fun k => mx (f k) (e.f k) else f) k
    refine ih (fun e he2 => he e (List.mem_cons_of_mem _ he2)) fun k => ?_
    have h1 := hf k
    have h2 := he e (List.mem_cons_self ..) k
    split
    · show 0 ≤ mx (f k) (e.f k)
      unfold mx
      split <;> omega
    · exact h1
theorem made_zero : made (fun _ => 0) = [] := by
  unfold made madeN
  rw [List.filter_eq_nil_iff.mpr fun k _ => by simp]
  rfl
theorem made_one {j : Nat} (hj : j < 9) {n : Int} (hn : 0 < n) : made (fun k => if k = j then n else 0) = [(((j : Nat) : Int) + 1, n)] := by
  have h : j = 0 ∨ j = 1 ∨ j = 2 ∨ j = 3 ∨ j = 4 ∨ j = 5 ∨ j = 6 ∨ j = 7 ∨ j = 8 := by omega
  unfold made madeN
  rcases h with h | h | h | h | h | h | h | h | h <;> subst h <;> simp [List.range, List.range.loop, hn]
theorem for_ents {K : PySem.W.Frag} {g : TG} {t : TS} {D : Ends} {σ : L2.St} {H H0 : Hp} {a : Addr} {ps : List Addr} {es : List En} {p : Bool} (hS : SqL K H0 a (ps.map V.ref)) (hP : Ents K H0 p ps es) (Pv : List En → L2.St → Hp → Prop) (h0 : Pv [] σ H) (hl : ∀ pre σ H, Pv pre σ H → Same H0 H)
    (hs : ∀ (pre : List En) (e : En) (post : List En) (q : Addr) σ H, es = pre ++ e :: post → Pv pre σ H → ps[pre.length]? = some q → Ent K H p q e → g (.ref q) σ H fun σ2 H2 => t { D with nx := Pv (pre ++ [e]), ct := Pv (pre ++ [e]), bk := D.nx } σ2 H2)
    (hd : ∀ σ H, Pv es σ H → D.nx σ H) : ForB (Itl K a) g t D σ H := by
  refine for_list (xs := ps.map V.ref) (fun i => Pv (es.take i)) (by simpa using h0) (fun i σ H _ q => (hl _ σ H q).seq hS) (fun i x σ H hx q => ?_) (fun σ H q => ?_)
  · rw [List.getElem?_map] at hx
    obtain ⟨r, hr, rfl⟩ := Option.map_eq_some_iff.mp hx
    obtain ⟨e, he, hE⟩ := paired_get hP i r hr
    have hi := (List.getElem?_eq_some_iff.mp he).1
    have e2 := (List.getElem?_eq_some_iff.mp he).2
    have e1 : es = es.take i ++ e :: es.drop (i + 1) := by rw [← e2, List.getElem_cons_drop, List.take_append_drop]
    have el : (es.take i).length = i := by rw [List.length_take]; omega
    rw [List.take_add_one, he]
    exact hs _ e _ r σ H e1 q (by rw [el]; exact hr) (hE.same (hl _ σ H q))
  · rw [List.length_map, paired_len hP, List.take_length] at q
    exact hd σ H q
theorem len_put {f : Str} {v : V} : ∀ {fs : List (Str × V)} {n : Nat}, fs.length ≤ n → (putF f v fs).length ≤ n + 1
  | [], n, h => by show 1 ≤ n + 1; omega
  | (g, x) :: r, n, h => by
    show (if g = f then (g, v) :: r else (g, x) :: putF f v r).length ≤ n + 1
    rw [List.length_cons] at h
    by_cases e : g = f
    · rw [if_pos e, List.length_cons]; omega
    · rw [if_neg e, List.length_cons]
      have := len_put (f := f) (v := v) (fs := r) (n := n - 1) (by omega)
      omega
theorem lt_put {fs : List (Str × V)} (h : fs.length ≤ 8) : fs.length < 1000 := Nat.lt_of_le_of_lt h (by decide)
theorem e_tDIn {td ty : TE} {σ : L2.St} {H : Hp} {Q : VK} (q : ty σ H fun y H1 => td σ H1 fun x H2 => ∃ a o, x = .ref a ∧ DGet H2 a y o ∧ Q (.bl o.isSome) H2) : tDIn ty td σ H Q := q
theorem e_tDNotIn {td ty : TE} {σ : L2.St} {H : Hp} {Q : VK} (q : ty σ H fun y H1 => td σ H1 fun x H2 => ∃ a o, x = .ref a ∧ DGet H2 a y o ∧ Q (.bl (!o.isSome)) H2) : tDNotIn ty td σ H Q := q
theorem e_tDSetd {td ty tx : TE} {σ : L2.St} {H : Hp} {Q : VK} (q : td σ H fun x H1 => ∃ a, x = .ref a ∧ IsD H1 a ∧ ty σ H1 fun y H2 => tx σ H2 fun z H3 => ∃ (kvs : List (Key × V)) (k : Key), H3 a = some (.dK kvs) ∧ y = kV k ∧ kvs.length < sizeLine ∧
  (∀ v, valV kvs k = some v → Q v H3) ∧ (valV kvs k = none → Q z (upd H3 a (.dK (putK kvs k z))))) : tDSetd td ty tx σ H Q := q
theorem e_lockE {t : TE} {σ : L2.St} {H : Hp} {Q : VK} (q : ∃ d u, H d = some u ∧ Mut (some u) ∧ ∀ od, t σ (upd H d (.frz od u)) fun v H' => H' d = some (.frz od u) ∧ Q v (upd H' d u)) : tLockE t σ H Q := q
theorem e_iItems {td : TE} {σ : L2.St} {H : Hp} {R : It → Hp → Prop} (q : td σ H fun x H1 => ∃ d o kvs, x = .ref d ∧ H1 d = some (.frz o (.dK kvs)) ∧ R (Iti d o kvs) H1) : iItems td σ H R := q
theorem e_sFldAug {K : PySem.W.Frag} {ta tv : TE} {rd : V → V → Hp → VK → Prop} {f : Str} {D : Ends} {σ : L2.St} {H : Hp} (q : ta σ H fun x H1 => ∃ a C dx fs v, x = .ref a ∧ H1 a = some (.ins C dx fs) ∧ Cls K C ∧ NoAttr K C f ∧ fs.lookup f = some v ∧
  tv σ H1 fun y H2 => rd v y H2 fun z H3 => ∃ dx' fs', H3 a = some (.ins C dx' fs') ∧ fs'.length < 1000 ∧ D.nx σ (upd H3 a (.ins C dx' (putF f z fs')))) : sFldAug K ta tv rd f D σ H := q
theorem e_tMeth {C : Addr} {m : Str} {sp : Sp} {dvs : List V} {E : XK} {ta : TE} {t : TA} {σ : L2.St} {H : Hp} {Q : VK} (q : ta σ H fun x H1 => ∃ a dx fs, x = .ref a ∧ H1 a = some (.ins C dx fs) ∧ fs.lookup m = none ∧ t σ H1 fun vs H2 => sp (x :: (vs ++ dvs)) H2 Q E) : tMeth C m sp dvs E ta t σ H Q := q
theorem i_some {v : V} {P R : Prop} (q : P) : if (Option.some v).isSome = true then P else R := q
theorem i_none {P R : Prop} (q : R) : if (Option.none (α := V)).isSome = true then P else R := q
theorem i_nsome {v : V} {P R : Prop} (q : R) : if (!(Option.some v).isSome) = true then P else R := q
theorem i_nnone {P R : Prop} (q : P) : if (!(Option.none (α := V)).isSome) = true then P else R := q
theorem e_dnewK {σ : L2.St} {H : Hp} {Q : VK} (q : ∀ p, H p = none → Q (.ref p) (upd H p (.dK []))) : tDNewK σ H Q := q
theorem e_tWhile {tc : TT} {tb : TS} {D : Ends} {σ : L2.St} {H : Hp} (q : ∃ W : Nat → L2.St → Hp → Prop, (∃ m, W m σ H) ∧ ∀ m σ H, W m σ H → tc σ H fun b H1 => if b = true then ∃ N : L2.St → Hp → Prop, (∀ σ' H', N σ' H' → ∃ m', m' < m ∧ W m' σ' H') ∧ tb { D with nx := N, ct := N, bk := D.nx } σ H1 else D.nx σ H1) : tWhile tc tb D σ H := q
/-! ### what stands but at some places -/
def Fr (S : List Addr) (H H' : Hp) : Prop := ∀ x o, x ∉ S → H x = some o → H' x = some o
theorem Fr.of {S : List Addr} {H H' : Hp} (h : Same H H') : Fr S H H' := fun x o _ e => h x o e
theorem Fr.refl (S : List Addr) (H : Hp) : Fr S H H := fun _ _ _ e => e
theorem Fr.trans {S : List Addr} {H H1 H2 : Hp} (h : Fr S H H1) (g : Fr S H1 H2) : Fr S H H2 := fun x o n e => g x o n (h x o n e)
theorem Fr.same {S : List Addr} {H H1 H2 : Hp} (h : Fr S H H1) (g : Same H1 H2) : Fr S H H2 := fun x o n e => g x o (h x o n e)
theorem Fr.put {S : List Addr} {H H1 : Hp} {a : Addr} {o : HO} (h : Fr S H H1) (m : a ∈ S) : Fr S H (upd H1 a o) := fun x o' n e => by
  rw [upd_ne fun z => n (by rw [z]; exact m)]
  exact h x o' n e
theorem Fr.mono {S S' : List Addr} {H H1 : Hp} (h : Fr S H H1) (m : ∀ x ∈ S, x ∈ S') : Fr S' H H1 := fun x o n e => h x o (fun z => n (m x z)) e
theorem Fr.mut {S : List Addr} {H H1 : Hp} {a : Addr} {o : HO} (h : Fr S H H1) (m : H a = none) : Fr S H (upd H1 a o) := fun x o' n e => by
  rw [upd_ne (ne_of_none e m)]
  exact h x o' n e
theorem Fr.put2 {S : List Addr} {H H1 : Hp} {a : Addr} {o : HO} (h : Fr S H H1) (m : a ∈ S ∨ H a = none) : Fr S H (upd H1 a o) := m.elim (fun m => h.put m) fun m => h.mut m
/-! ### the heap without some places -/
def hid (D : List Addr) (H : Hp) : Hp := fun b => if b ∈ D then none else H b
theorem hid_at {D : List Addr} {H : Hp} {b : Addr} (n : b ∉ D) : hid D H b = H b := by unfold hid; rw [if_neg n]
theorem hid_in {D : List Addr} {H : Hp} {b : Addr} (m : b ∈ D) : hid D H b = none := by unfold hid; rw [if_pos m]
theorem hid_some {D : List Addr} {H : Hp} {b : Addr} {o : HO} (h : hid D H b = some o) : b ∉ D ∧ H b = some o := by
  by_cases m : b ∈ D
  · rw [hid_in m] at h; cases h
  · rw [hid_at m] at h; exact ⟨m, h⟩
theorem hid_upd {D : List Addr} {H : Hp} {p : Addr} {o : HO} (n : p ∉ D) : hid D (upd H p o) = upd (hid D H) p o := by
  funext b
  by_cases e : b = p
  · rw [e, hid_at n, upd_same, upd_same]
  · rw [upd_ne e]
    by_cases m : b ∈ D
    · rw [hid_in m, hid_in m]
    · rw [hid_at m, hid_at m, upd_ne e]
theorem hid_upd_in {D : List Addr} {H : Hp} {p : Addr} {o : HO} (m : p ∈ D) : hid D (upd H p o) = hid D H := by
  funext b
  by_cases m2 : b ∈ D
  · rw [hid_in m2, hid_in m2]
  · rw [hid_at m2, hid_at m2, upd_ne fun e => m2 (by rw [e]; exact m)]
theorem hid_fr {D : List Addr} {H H' : Hp} (f : Fr D H H') : Same (hid D H) (hid D H') := fun b o h => by
  obtain ⟨n, e⟩ := hid_some h
  rw [hid_at n]
  exact f b o n e
theorem hid_same {D : List Addr} {H H' : Hp} (s : Same H H') : Same (hid D H) (hid D H') := hid_fr (Fr.of s)
theorem hid_sub {D : List Addr} {H : Hp} : Same (hid D H) H := fun b o h => (hid_some h).2
theorem hid_nil {H : Hp} : hid [] H = H := by funext b; exact hid_at (by simp)
theorem hid_none {D : List Addr} {H : Hp} {b : Addr} (h : H b = none) : hid D H b = none := by
  by_cases m : b ∈ D
  · exact hid_in m
  · rw [hid_at m]; exact h
theorem hid_new {H : Hp} {D p : Addr} {o o' : HO} (hD : H D = some o') (hp : H p = none) : hid [D] (upd H p o) = upd (hid [D] H) p o := hid_upd (by
  intro m
  rw [List.mem_singleton.mp m, hD] at hp
  cases hp)
/-- a list made by a comprehension whose elements stand in a relation to their places -/
theorem lc_rel {J : It} {n : Nat} {G : Hp → Prop} {Y : Nat → Hp → V → Hp → Prop} (w : Walk J n G Y) {g : TG} {te : TE} {vs : List Nat} {σ : L2.St} {Da : Addr} {H0 : Hp} {Q : VK} (hD : H0 Da = none) (hn : n ≤ 1000000)
    (hG : ∀ H, Same H0 H → G H) (R : Nat → V → Hp → Prop) (mono : ∀ i v H H', R i v H → Same H H' → R i v H')
    (hs : ∀ (i : Nat) (x : V) (H H' : Hp) (C : VK) (E : Hp → Prop) (acc : HO), i < n → Same H0 H → H Da = some acc → Y i H x H' → (∀ v H3, Same H H3 → R i v (hid [Da] H3) → C v H3) →
      g x (wipe σ vs) H' fun σ2 H2 => wipe σ2 vs = wipe σ vs ∧ tYes σ2 H2 fun b H3 => if b = true then te σ2 H3 C else E H3)
    (hd : ∀ (H : Hp) (us : List V), Same H0 H → H Da = some (.lst us) → us.length = n → (∀ i v, us[i]? = some v → R i v (hid [Da] H)) → Q (.ref Da) H) : LcB J g tYes te vs σ Da H0 Q := by
  refine lc_it w (fun i H => Same H0 H ∧ ∃ us, H Da = some (.lst us) ∧ us.length = i ∧ ∀ j v, us[j]? = some v → R j v (hid [Da] H)) ⟨same_new hD, [], upd_same, rfl, fun j v h => by simp at h⟩ (fun i H _ p => hG H p.1) (fun i x H H' hi p y => ?_) (fun H p => ?_)
  · obtain ⟨s1, us, e1, l1, r1⟩ := p
    refine hs i x H H' _ _ _ hi s1 e1 y fun v H3 s3 r3 => ?_
    refine ⟨us, s3 _ _ e1, Nat.lt_of_le_of_lt (by omega : _ ≤ 1000000) (by decide), Same.mut (s1.trans s3) hD, us ++ [v], upd_same, by simp [l1], fun j u hj => ?_⟩
    rw [hid_upd_in (List.mem_singleton.mpr rfl)]
    by_cases hl : j < us.length
    · rw [List.getElem?_append_left hl] at hj
      exact mono _ _ _ _ (r1 j u hj) (hid_same s3)
    · rw [List.getElem?_append_right (by omega)] at hj
      have hj2 := (List.getElem?_eq_some_iff.mp hj).1
      have z : j = i := by simp at hj2; omega
      subst z
      rw [l1, Nat.sub_self] at hj
      cases hj
      exact r3
  · obtain ⟨s1, us, e1, l1, r1⟩ := p
    exact hd H us s1 e1 l1 r1
theorem prd_mk {α β : Type} {F : α → β → Prop} : ∀ {l : List α} {m : List β}, l.length = m.length → (∀ (i : Nat) (a : α) (b : β), l[i]? = some a → m[i]? = some b → F a b) → Paired F l m
  | [], [], _, _ => .nil
  | a :: l, b :: m, e, h => .cons (h 0 a b rfl rfl) (prd_mk (by simpa using e) fun i x y h1 h2 => h (i + 1) x y h1 h2)
theorem prd_app {α β : Type} {F : α → β → Prop} : ∀ {l1 : List α} {m1 : List β} {l2 : List α} {m2 : List β}, Paired F l1 m1 → Paired F l2 m2 → Paired F (l1 ++ l2) (m1 ++ m2)
  | _, _, _, _, .nil, h => h
  | _, _, _, _, .cons a t, h => .cons a (prd_app t h)
theorem prd_take {α β : Type} {F : α → β → Prop} : ∀ {l : List α} {m : List β} (n : Nat), Paired F l m → Paired F (l.take n) (m.take n)
  | _, _, 0, _ => .nil
  | _, _, _ + 1, .nil => .nil
  | _, _, n + 1, .cons a t => .cons a (prd_take n t)
theorem prd_drop {α β : Type} {F : α → β → Prop} : ∀ {l : List α} {m : List β} (n : Nat), Paired F l m → Paired F (l.drop n) (m.drop n)
  | _, _, 0, h => h
  | _, _, _ + 1, .nil => .nil
  | _, _, n + 1, .cons _ t => prd_drop n t
/-- all are places -/
theorem all_refs : ∀ (us : List V), (∀ u ∈ us, ∃ q, u = .ref q) → ∃ qs : List Addr, us = qs.map V.ref
  | [], _ => ⟨[], rfl⟩
  | u :: us, h => by
    obtain ⟨q, e⟩ := h u (List.mem_cons_self ..)
    obtain ⟨qs, e2⟩ := all_refs us fun x m => h x (List.mem_cons_of_mem _ m)
    exact ⟨q :: qs, by rw [e, e2]; rfl⟩
/-- not a tuple -/
def NT (H : Hp) (d : Addr) : Prop := (∀ xs, H d ≠ some (.tup xs)) ∧ ∀ c xs, H d ≠ some (.frz c (.tup xs))
theorem sqT_hid {K : PySem.W.Frag} {D : List Addr} {H : Hp} {p : Addr} {xs : List V} (h : SqT K H p xs) (n : ∀ d ∈ D, NT H d) : SqT K (hid D H) p xs := by
  rcases h with (h | ⟨c9, h⟩) | h
  · exact .inl (.inl (by rw [hid_at fun m => (n p m).1 _ h]; exact h))
  · exact .inl (.inr ⟨c9, by rw [hid_at fun m => (n p m).2 _ _ h]; exact h⟩)
  · exact .inr h
theorem vec_hid {K : PySem.W.Frag} {D : List Addr} {H : Hp} {a : Addr} {v : Vc} (h : Vec K H a v) (n : ∀ d ∈ D, NT H d) : Vec K (hid D H) a v := by
  obtain ⟨ps, h1, h2⟩ := h
  exact ⟨ps, sqT_hid h1 n, paired_imp (fun _ _ q => sqT_hid q n) h2⟩
theorem nt_lst {H : Hp} {d : Addr} {xs : List V} (h : H d = some (.lst xs)) : NT H d := ⟨fun _ z => (by rw [h] at z; cases z), fun _ _ z => (by rw [h] at z; cases z)⟩
theorem nt_dK {H : Hp} {d : Addr} {xs : List (Key × V)} (h : H d = some (.dK xs)) : NT H d := ⟨fun _ z => (by rw [h] at z; cases z), fun _ _ z => (by rw [h] at z; cases z)⟩
theorem nt_ins {H : Hp} {d C dx : Addr} {fs : List (Str × V)} (h : H d = some (.ins C dx fs)) : NT H d := ⟨fun _ z => (by rw [h] at z; cases z), fun _ _ z => (by rw [h] at z; cases z)⟩
/-- the law's own lists -/
def Al (D : List Addr) (H : Hp) : Prop := ∀ d ∈ D, ∃ xs, H d = some (.lst xs)
theorem Al.nt {D : List Addr} {H : Hp} (h : Al D H) : ∀ d ∈ D, NT H d := fun d m => let ⟨_, e⟩ := h d m; nt_lst e
theorem Al.same {D : List Addr} {H H' : Hp} (h : Al D H) (s : Same H H') : Al D H' := fun d m => let ⟨xs, e⟩ := h d m; ⟨xs, s _ _ e⟩
theorem Al.free {D : List Addr} {H : Hp} {p : Addr} (h : Al D H) (e : H p = none) : p ∉ D := fun m => by
  obtain ⟨xs, z⟩ := h p m
  rw [e] at z; cases z
/-! ### stores -/
abbrev cSto (K : PySem.W.Frag) : Addr := He.ga K "Store"
structure S0 where
  fl : List (Str × (List Int × Int))
  tp : List (Str × List Int)
  at_ : List (Str × (Vc × List Int))
  n : Int
def dct (w : List (Str × Addr)) : List (Key × V) := w.map fun x => (Sum.inr x.1, V.ref x.2)
def FilA (H : Hp) (q : Addr) (r : List Int × Int) : Prop := ∃ l, H q = some (.tup [.ref l, .int r.2]) ∧ H l = some (.lst (r.1.map V.int))
def AttA (K : PySem.W.Frag) (H : Hp) (q : Addr) (r : Str × (Vc × List Int)) : Prop := ∃ v l, H q = some (.tup [.str r.1, .ref v, .ref l]) ∧ Vec K H v r.2.1 ∧ H l = some (.lst (r.2.2.map V.int))
abbrev Fls (H : Hp) (w : List (Str × Addr)) (fl : List (Str × (List Int × Int))) : Prop := Paired (fun x r => x.1 = r.1 ∧ FilA H x.2 r.2) w fl
abbrev Tps (H : Hp) (w : List (Str × Addr)) (tp : List (Str × List Int)) : Prop := Paired (fun x r => x.1 = r.1 ∧ H x.2 = some (.lst (r.2.map V.int))) w tp
abbrev Ats (K : PySem.W.Frag) (H : Hp) (q : List Addr) (l : List (Str × (Vc × List Int))) : Prop := Paired (AttA K H) q l
/-- the store's own things that change: itself, its dicts, its list, the temporary files -/
abbrev foot (a fd td ad : Addr) (tw : List (Str × Addr)) : List Addr := a :: fd :: td :: ad :: tw.map (·.2)
structure StoX (K : PySem.W.Frag) (H : Hp) (a : Addr) (S : S0) (dx fd td ad ld nd : Addr) (fs : List (Str × V)) (fw tw : List (Str × Addr)) (aq : List Addr) : Prop where
  ins : H a = some (.ins (cSto K) dx fs)
  len : fs.length ≤ 8
  l1 : fs.lookup ("_files" : Str) = some (.ref fd)
  l2 : fs.lookup ("_temps" : Str) = some (.ref td)
  l3 : fs.lookup ("_attic" : Str) = some (.ref ad)
  l4 : fs.lookup ("_log" : Str) = some (.ref ld)
  l5 : fs.lookup ("_new_log" : Str) = some (.ref nd)
  l6 : fs.lookup ("_budget" : Str) = some .non
  l7 : fs.lookup ("_done" : Str) = some (.int S.n)
  l0 : ∀ m : Str, m ∉ (["_files", "_temps", "_attic", "_log", "_new_log", "_budget", "_done"] : List Str) → fs.lookup m = none
  f1 : H fd = some (.dK (dct fw))
  t1 : H td = some (.dK (dct tw))
  a1 : H ad = some (.lst (aq.map V.ref))
  f2 : Fls (hid (foot a fd td ad tw) H) fw S.fl
  t2 : Tps H tw S.tp
  a2 : Ats K (hid (foot a fd td ad tw) H) aq S.at_
  g1 : (hid (foot a fd td ad tw) H) ld = some (.lst [])
  g2 : (hid (foot a fd td ad tw) H) nd = some (.lst [])
  nd : (foot a fd td ad tw).Nodup
  fn : (S.fl.map (·.1)).Nodup
  tn : (S.tp.map (·.1)).Nodup
def Sto (K : PySem.W.Frag) (H : Hp) (F : List Addr) (a : Addr) (S : S0) : Prop := ∃ dx fd td ad ld nd fs fw tw aq, F = foot a fd td ad tw ∧ StoX K H a S dx fd td ad ld nd fs fw tw aq
theorem FilA.same {H H' : Hp} {q : Addr} {r : List Int × Int} (h : FilA H q r) (s : Same H H') : FilA H' q r := let ⟨l, h1, h2⟩ := h; ⟨l, s _ _ h1, s _ _ h2⟩
theorem AttA.same {K : PySem.W.Frag} {H H' : Hp} {q : Addr} {r : Str × (Vc × List Int)} (h : AttA K H q r) (s : Same H H') : AttA K H' q r := let ⟨v, l, h1, h2, h3⟩ := h; ⟨v, l, s _ _ h1, h2.same s, s _ _ h3⟩
theorem fls_same {H H' : Hp} {w : List (Str × Addr)} {fl : List (Str × (List Int × Int))} (h : Fls H w fl) (s : Same H H') : Fls H' w fl := paired_imp (fun _ _ q => ⟨q.1, q.2.same s⟩) h
theorem tps_same {H H' : Hp} {w : List (Str × Addr)} {fl : List (Str × List Int)} (h : Tps H w fl) (s : Same H H') : Tps H' w fl := paired_imp (fun _ _ q => ⟨q.1, s _ _ q.2⟩) h
theorem ats_same {K : PySem.W.Frag} {H H' : Hp} {w : List Addr} {fl : List (Str × (Vc × List Int))} (h : Ats K H w fl) (s : Same H H') : Ats K H' w fl := paired_imp (fun _ _ q => AttA.same q s) h
theorem Sto.same {K : PySem.W.Frag} {H H' : Hp} {F : List Addr} {a : Addr} {S : S0} (h : Sto K H F a S) (s : Same H H') : Sto K H' F a S := by
  obtain ⟨dx, fd, td, ad, ld, nd, fs, fw, tw, aq, rfl, x⟩ := h
  exact ⟨dx, fd, td, ad, ld, nd, fs, fw, tw, aq, rfl, s _ _ x.ins, x.len, x.l1, x.l2, x.l3, x.l4, x.l5, x.l6, x.l7, x.l0, s _ _ x.f1, s _ _ x.t1, s _ _ x.a1, fls_same x.f2 (hid_same s), tps_same x.t2 s, ats_same x.a2 (hid_same s), hid_same s _ _ x.g1, hid_same s _ _ x.g2, x.nd, x.fn, x.tn⟩
theorem tps_mem {H : Hp} : ∀ {w : List (Str × Addr)} {tp : List (Str × List Int)}, Tps H w tp → ∀ b ∈ w.map (·.2), ∃ xs, H b = some (.lst xs)
  | _, _, .nil, b, m => by cases m
  | _, _, .cons h t, b, m => by
    rcases List.mem_cons.mp m with e | m
    · exact ⟨_, by rw [e]; exact h.2⟩
    · exact tps_mem t b m
theorem StoX.has {K : PySem.W.Frag} {H : Hp} {a dx fd td ad ld nd : Addr} {S : S0} {fs : List (Str × V)} {fw tw : List (Str × Addr)} {aq : List Addr} (x : StoX K H a S dx fd td ad ld nd fs fw tw aq) : ∀ b ∈ foot a fd td ad tw, (∃ o, H b = some o) ∧ NT H b := fun b m => by
  rcases List.mem_cons.mp m with e | m
  · rw [e]; exact ⟨⟨_, x.ins⟩, nt_ins x.ins⟩
  rcases List.mem_cons.mp m with e | m
  · rw [e]; exact ⟨⟨_, x.f1⟩, nt_dK x.f1⟩
  rcases List.mem_cons.mp m with e | m
  · rw [e]; exact ⟨⟨_, x.t1⟩, nt_dK x.t1⟩
  rcases List.mem_cons.mp m with e | m
  · rw [e]; exact ⟨⟨_, x.a1⟩, nt_lst x.a1⟩
  obtain ⟨xs, h⟩ := tps_mem x.t2 b m
  exact ⟨⟨_, h⟩, nt_lst h⟩
theorem Sto.has {K : PySem.W.Frag} {H : Hp} {F : List Addr} {a : Addr} {S : S0} (h : Sto K H F a S) : ∀ b ∈ F, (∃ o, H b = some o) ∧ NT H b := by
  obtain ⟨dx, fd, td, ad, ld, nd, fs, fw, tw, aq, rfl, x⟩ := h
  exact x.has
theorem Sto.notin {K : PySem.W.Frag} {H : Hp} {D F : List Addr} {a : Addr} {S : S0} (h : Sto K (hid D H) F a S) {d : Addr} (m : d ∈ D) : d ∉ F := fun z => by
  obtain ⟨⟨o, e⟩, _⟩ := h.has d z
  rw [hid_in m] at e; cases e
theorem Al.fr {K : PySem.W.Frag} {D F : List Addr} {H H' : Hp} {a : Addr} {S : S0} (h : Al D H) (t : Sto K (hid D H) F a S) (f : Fr F H H') : Al D H' := fun d m => let ⟨xs, e⟩ := h d m; ⟨xs, f d _ (t.notin m) e⟩
/-! looking up -/
def lk {β : Type} (nm : Str) : List (Str × β) → Option β
  | [] => none
  | r :: l => if r.1 = nm then some r.2 else lk nm l
theorem val_dct {β : Type} {R : Addr → β → Prop} (nm : Str) : ∀ {w : List (Str × Addr)} {fl : List (Str × β)}, Paired (fun x r => x.1 = r.1 ∧ R x.2 r.2) w fl →
    (valV (dct w) (Sum.inr nm) = none ∧ lk nm fl = none) ∨ ∃ q r, valV (dct w) (Sum.inr nm) = some (.ref q) ∧ lk nm fl = some r ∧ R q r ∧ (nm, q) ∈ w
  | _, _, .nil => .inl ⟨rfl, rfl⟩
  | x :: ws, r :: rs, .cons h t => by
    have e : valV (dct (x :: ws)) (Sum.inr nm) = if x.1 = nm then some (.ref x.2) else valV (dct ws) (Sum.inr nm) := by
      unfold valV dct
      rw [List.map_cons, List.find?_cons]
      by_cases z : x.1 = nm
      · rw [if_pos z, decide_eq_true (congrArg Sum.inr z)]; rfl
      · rw [if_neg z, decide_eq_false fun q => z (Sum.inr.inj q)]
    by_cases z : x.1 = nm
    · refine .inr ⟨x.2, r.2, by rw [e, if_pos z], ?_, h.2, ?_⟩
      · show (if r.1 = nm then some r.2 else lk nm rs) = _
        rw [if_pos (h.1.symm.trans z)]
      · rw [← z]; exact List.mem_cons_self ..
    · have z2 : ¬ r.1 = nm := fun q => z (h.1.trans q)
      have e2 : lk nm (r :: rs) = lk nm rs := by
        show (if r.1 = nm then some r.2 else lk nm rs) = _
        rw [if_neg z2]
      rcases val_dct nm t with ⟨h1, h2⟩ | ⟨q, s, h1, h2, h3, h4⟩
      · exact .inl ⟨by rw [e, if_neg z]; exact h1, by rw [e2]; exact h2⟩
      · exact .inr ⟨q, s, by rw [e, if_neg z]; exact h1, by rw [e2]; exact h2, h3, List.mem_cons_of_mem _ h4⟩
theorem dct_keys {β : Type} {R : Addr → β → Prop} : ∀ {w : List (Str × Addr)} {fl : List (Str × β)}, Paired (fun x r => x.1 = r.1 ∧ R x.2 r.2) w fl → (dct w).map (·.1) = (fl.map (·.1)).map Sum.inr
  | _, _, .nil => rfl
  | _, _, .cons h t => by
    show Sum.inr _ :: (dct _).map (·.1) = Sum.inr _ :: _
    rw [dct_keys t, h.1]
theorem lk_mem {β : Type} {nm : Str} : ∀ {l : List (Str × β)}, nm ∈ l.map (·.1) → ∃ r, lk nm l = some r ∧ (nm, r) ∈ l
  | [], h => by cases h
  | x :: l, h => by
    by_cases z : x.1 = nm
    · exact ⟨x.2, by show (if x.1 = nm then some x.2 else lk nm l) = _; rw [if_pos z], by rw [← z]; exact List.mem_cons_self ..⟩
    · rcases List.mem_cons.mp h with e | h
      · exact absurd e.symm z
      · obtain ⟨r, h1, h2⟩ := lk_mem h
        exact ⟨r, by show (if x.1 = nm then some x.2 else lk nm l) = _; rw [if_neg z]; exact h1, List.mem_cons_of_mem _ h2⟩
/-! the order of names -/
theorem rise_pw : ∀ (l : List Str) (p : Str), PyProof.Rows.risingS p l = true → (p :: l).Pairwise fun a b : Str => a.cps.toList ≤ b.cps.toList
  | [], p, _ => by simp
  | x :: r, p, h => by
    have h' : (!Spec.ltCps x.cps.toList p.cps.toList && PyProof.Rows.risingS x r) = true := h
    rw [Bool.and_eq_true] at h'
    have ih := rise_pw r x h'.2
    have px : p.cps.toList ≤ x.cps.toList := by
      have z := h'.1
      rw [PyProof.Rows.ltCps_eq] at z
      intro q
      rw [decide_eq_true q] at z
      cases z
    refine List.pairwise_cons.mpr ⟨fun y hy => ?_, ih⟩
    rcases List.mem_cons.mp hy with rfl | hy
    · exact px
    · exact List.le_trans px ((List.pairwise_cons.mp ih).1 y hy)
theorem sorted_one {l m : List Str} (hp : l.Perm m) (h1 : PyProof.Rows.sortedS l = true) (h2 : PyProof.Rows.sortedS m = true) : l = m := by
  have pw : ∀ l : List Str, PyProof.Rows.sortedS l = true → l.Pairwise fun a b : Str => a.cps.toList ≤ b.cps.toList := fun l h => by
    cases l with
    | nil => exact .nil
    | cons p r => exact rise_pw r p h
  exact hp.eq_of_pairwise (fun a b _ _ h3 h4 => TL.ext_tl (List.le_antisymm h3 h4)) (pw l h1) (pw m h2)
theorem Sto.new {K : PySem.W.Frag} {H : Hp} {D F : List Addr} {a d : Addr} {S : S0} (h : Sto K (hid D H) F a S) (e : H d = none) : d ∉ F := fun m => by
  obtain ⟨⟨o, z⟩, _⟩ := h.has d m
  rw [hid_none e] at z; cases z
theorem Sto.sub {K : PySem.W.Frag} {H : Hp} {D F : List Addr} {a : Addr} {S : S0} (h : Sto K (hid D H) F a S) : Sto K H F a S := h.same hid_sub
/-- one byte more -/
def ap1 (nm : Str) (tp : List (Str × List Int)) (b : Int) : List (Str × List Int) := match lk nm tp with
  | none => tp ++ [(nm, [b])]
  | some _ => tp.map fun r => if r.1 = nm then (r.1, r.2 ++ [b]) else r
def S0.app (S : S0) (nm : Str) (bs : List Int) : S0 := { S with tp := bs.foldl (ap1 nm) S.tp, n := S.n + bs.length }
mutual
theorem eqv_self : ∀ d : PyData, d.plain = true → PyData.eqv d d = true
  | .none, _ => by simp [PyData.eqv]
  | .bool b, _ => by simp [PyData.eqv]
  | .int i, _ => by simp [PyData.eqv]
  | .str x, _ => by simp [PyData.eqv]
  | .list ds, h => by
    show PyData.eqvAll ds ds = true
    exact eqvAll_self ds h
  | .tuple ds, h => by
    show PyData.eqvAll ds ds = true
    exact eqvAll_self ds h
  | .dict ds, h => by cases h
theorem eqvAll_self : ∀ ds : List PyData, PyData.plainAll ds = true → PyData.eqvAll ds ds = true
  | [], _ => by simp [PyData.eqvAll]
  | d :: ds, h => by
    rw [PyData.plainAll, Bool.and_eq_true] at h
    rw [PyData.eqvAll, eqv_self d h.1, eqvAll_self ds h.2]
    rfl
end
theorem plain_map {α : Type} (f : α → PyData) (h : ∀ x, (f x).plain = true) : ∀ l : List α, PyData.plainAll (l.map f) = true
  | [] => by simp [PyData.plainAll]
  | x :: l => by rw [List.map_cons, PyData.plainAll, h x, plain_map f h l]; rfl
theorem depth_map {α : Type} (f : α → PyData) {n : Nat} (h : ∀ x, (f x).depth ≤ n) : ∀ l : List α, PyData.depthAll (l.map f) ≤ n
  | [] => by simp [PyData.depthAll]
  | x :: l => by
    rw [List.map_cons, PyData.depthAll]
    have h1 := h x
    have h2 := depth_map f h l
    omega
def durF (S : S0) (y : Str) : PyData := .tuple [.str y, .tuple (Di ((lk y S.fl).getD ([], 0)).1), .int ((lk y S.fl).getD ([], 0)).2]
def durT (S : S0) (y : Str) : PyData := .tuple [.str y, .tuple (Di ((lk y S.tp).getD []))]
def durA (r : Str × (Vc × List Int)) : PyData := .tuple [.str r.1, .tuple (Dv r.2.1), .tuple (Di r.2.2)]
def durD (S : S0) (ys zs : List Str) : PyData := .tuple [.tuple (ys.map (durF S)), .tuple (zs.map (durT S)), .tuple (S.at_.map durA), .tuple [], .tuple []]
theorem dv_plain : ∀ v : Vc, PyData.plainAll (Dv v) = true
  | [] => by simp [PyData.plainAll]
  | c :: v => by
    show PyData.plainAll (.tuple (Di [c.1, c.2]) :: Dv v) = true
    rw [PyData.plainAll, dv_plain v, PyData.plain, plain_ints]
    rfl
theorem dp_vec {K : PySem.W.Frag} {H : Hp} {a : Addr} {v : Vc} (h : Vec K H a v) : Dp K H (.ref a) (.tuple (Dv v)) := by
  obtain ⟨ps, s1, p1⟩ := h
  exact .tup s1 (dv_all p1)
theorem durD_plain (S : S0) (ys zs : List Str) : (durD S ys zs).plain = true := by
  unfold durD
  have h1 := plain_map (durF S) (fun y => by simp [durF, PyData.plain, PyData.plainAll, plain_ints]) ys
  have h2 := plain_map (durT S) (fun y => by simp [durT, PyData.plain, PyData.plainAll, plain_ints]) zs
  have h3 := plain_map durA (fun y => by simp [durA, PyData.plain, PyData.plainAll, plain_ints, dv_plain]) S.at_
  simp only [PyData.plain, PyData.plainAll, h1, h2, h3]
  rfl
theorem durD_depth (S : S0) (ys zs : List Str) : (durD S ys zs).depth ≤ 60 := by
  have h1 := depth_map (durF S) (n := 4) (fun y => by
    show PyData.depthAll _ + 1 ≤ 4
    simp [PyData.depthAll, PyData.depth, Vf.depthAll_ints]) ys
  have h2 := depth_map (durT S) (n := 4) (fun y => by
    show PyData.depthAll _ + 1 ≤ 4
    simp [PyData.depthAll, PyData.depth, Vf.depthAll_ints]) zs
  have h3 := depth_map durA (n := 4) (fun y => by
    show PyData.depthAll _ + 1 ≤ 4
    have := dv_depth y.2.1
    simp only [PyData.depthAll, PyData.depth, Vf.depthAll_ints]
    omega) S.at_
  show PyData.depthAll _ + 1 ≤ 60
  simp only [PyData.depthAll, PyData.depth]
  omega
def Dur (K : PySem.W.Frag) (H : Hp) (r : Addr) (S : S0) : Prop := ∃ ys zs, ys.Perm (S.fl.map (·.1)) ∧ PyProof.Rows.sortedS ys = true ∧ zs.Perm (S.tp.map (·.1)) ∧ PyProof.Rows.sortedS zs = true ∧ Dp K H (.ref r) (durD S ys zs)
theorem Dur.same {K : PySem.W.Frag} {H H' : Hp} {r : Addr} {S : S0} (h : Dur K H r S) (s : Same H H') : Dur K H' r S := by
  obtain ⟨ys, zs, h1, h2, h3, h4, h5⟩ := h
  exact ⟨ys, zs, h1, h2, h3, h4, dp_same s h5⟩
theorem e_eqDur {K : PySem.W.Frag} {H : Hp} {Q : VK} {a b : Addr} {S : S0} (h1 : Dur K H a S) (h2 : Dur K H b S) (q : Q (.bl true) H) : rEqP K (.ref a) (.ref b) H Q := by
  obtain ⟨ys, zs, p1, q1, p2, q2, d1⟩ := h1
  obtain ⟨ys', zs', p3, q3, p4, q4, d2⟩ := h2
  have e1 := sorted_one (p3.trans p1.symm) q3 q1
  have e2 := sorted_one (p4.trans p2.symm) q4 q2
  subst e1 e2
  exact ⟨_, _, d1, d2, durD_plain .., durD_plain .., durD_depth .., by rw [eqv_self _ (durD_plain ..)]; exact q⟩
theorem same_hidN {H H2 : Hp} {D : Addr} (h : H D = none) (s : Same H H2) : Same H (hid [D] H2) := fun b o e => by
  rw [hid_at fun m => by rw [List.mem_singleton.mp m, h] at e; cases e]
  exact s _ _ e
theorem dpa_mk {K : PySem.W.Frag} {H : Hp} : ∀ {us : List V} {ds : List PyData}, us.length = ds.length → (∀ (i : Nat) (v : V) (d : PyData), us[i]? = some v → ds[i]? = some d → Dp K H v d) → DpAll K H us ds
  | [], [], _, _ => .nil
  | a :: l, b :: m, e, h => .cons (h 0 a b rfl rfl) (dpa_mk (by simpa using e) fun i x y h1 h2 => h (i + 1) x y h1 h2)
/-! what the methods promise -/
def sp_Store___init__ (K : PySem.W.Frag) : Sp := sp3 fun x y z H Q => ∃ (a d0 lg dx : Addr) (w0 : List (Str × Addr)) (fl : List (Str × (List Int × Int))) (D : List Addr), x = .ref a ∧ y = .ref d0 ∧ z = .ref lg ∧ H a = some (.ins (cSto K) dx []) ∧ H d0 = some (.dK (dct w0)) ∧ Fls H w0 fl ∧ (fl.map (·.1)).Nodup ∧ fl.length ≤ 100 ∧
  SqL K H lg [] ∧ Al D H ∧ ∀ (F : List Addr) (H' : Hp), (∀ b, b ≠ a → ∀ o, H b = some o → H' b = some o) → (∀ b ∈ F, b = a ∨ H b = none) → Sto K (hid D H') F a ⟨fl, [], [], 0⟩ → Q .non H'
def sp_Store__count_write (K : PySem.W.Frag) : Sp := sp1 fun x H Q => ∃ (a : Addr) (F D : List Addr) (S : S0), x = .ref a ∧ Al D H ∧ Sto K (hid D H) F a S ∧ ∀ H', Fr [a] H H' → Sto K (hid D H') F a { S with n := S.n + 1 } → Q .non H'
def sp_Store_names (K : PySem.W.Frag) : Sp := sp1 fun x H Q => ∃ (a : Addr) (F : List Addr) (S : S0), x = .ref a ∧ Sto K H F a S ∧ S.fl.length < 64 ∧ ∀ (p : Addr) (H' : Hp) (ys : List Str), H p = none → Same H H' → H' p = some (.lst (ys.map V.str)) → ys.Perm (S.fl.map (·.1)) → PyProof.Rows.sortedS ys = true → Q (.ref p) H'
def sp_Store_read (K : PySem.W.Frag) : Sp := sp2 fun x y H Q => ∃ (a : Addr) (F : List Addr) (S : S0) (nm : Str) (r : List Int × Int), x = .ref a ∧ y = .str nm ∧ Sto K H F a S ∧ lk nm S.fl = some r ∧ ∀ (t l : Addr) (H' : Hp), Same H H' → H' t = some (.tup [.ref l, .int r.2]) → H' l = some (.lst (r.1.map V.int)) → Q (.ref t) H'
def sp_Store_temp (K : PySem.W.Frag) : Sp := sp2 fun x y H Q => ∃ (a : Addr) (F : List Addr) (S : S0) (nm : Str), x = .ref a ∧ y = .str nm ∧ Sto K H F a S ∧ (lk nm S.tp = none → Q .non H) ∧ ∀ bs, lk nm S.tp = some bs → ∀ (l : Addr) (H' : Hp), H l = none → Same H H' → H' l = some (.lst (bs.map V.int)) → Q (.ref l) H'
def sp_Store_append_temp (K : PySem.W.Frag) : Sp := sp3 fun x y z H Q => ∃ (a d : Addr) (F D : List Addr) (S : S0) (nm : Str) (bs : List Int), x = .ref a ∧ y = .str nm ∧ z = .ref d ∧ Al D H ∧ Sto K (hid D H) F a S ∧ H d = some (.lst (bs.map V.int)) ∧ d ∉ F ∧ bs.length ≤ 1000 ∧ S.tp.length ≤ 100 ∧ (∀ r ∈ S.tp, r.2.length ≤ 10000) ∧
  ∀ (F' : List Addr) (H' : Hp), Fr F H H' → (∀ b ∈ F', b ∈ F ∨ H b = none) → Sto K (hid D H') F' a (S.app nm bs) → Q .non H'
def sp_Store_attic (K : PySem.W.Frag) : Sp := sp1 fun x H Q => ∃ (a : Addr) (F E : List Addr) (S : S0), x = .ref a ∧ Sto K H F a S ∧ (∀ d ∈ E, (∃ o, H d = some o) ∧ NT H d) ∧ S.at_.length ≤ 1000 ∧ ∀ (p : Addr) (qs : List Addr) (H' : Hp), H p = none → Same H H' → H' p = some (.lst (qs.map V.ref)) → Ats K (hid (p :: (E ++ F)) H') qs S.at_ → Q (.ref p) H'
def sp_Store_attic_put (K : PySem.W.Frag) : Sp := fun vs H Q _ => ∃ x nm v c, vs = [x, nm, v, c] ∧ ∃ (a w l : Addr) (F D : List Addr) (S : S0) (z : Str) (vc : Vc) (bs : List Int), x = .ref a ∧ nm = .str z ∧ v = .ref w ∧ c = .ref l ∧ Al D H ∧ Sto K (hid D H) F a S ∧ Vec K H w vc ∧ SqL K H l (bs.map V.int) ∧ S.at_.length ≤ 1000 ∧
  ∀ H', Fr F H H' → Sto K (hid D H') F a { S with at_ := S.at_ ++ [(z, (vc, bs))], n := S.n + 1 } → Q .non H'
def sp_Store_durable (K : PySem.W.Frag) : Sp := sp1 fun x H Q => ∃ (a : Addr) (F : List Addr) (S : S0), x = .ref a ∧ Sto K H F a S ∧ S.fl.length < 64 ∧ S.tp.length < 64 ∧ S.at_.length ≤ 1000 ∧ ∀ (r : Addr) (H' : Hp), Same H H' → Dur K H' r S → Q (.ref r) H'
structure STT (K : PySem.W.Frag) : Prop where
  cl : Cls K (cSto K)
  n1 : NoAttr K (cSto K) "_files"
  n2 : NoAttr K (cSto K) "_temps"
  n3 : NoAttr K (cSto K) "_attic"
  n4 : NoAttr K (cSto K) "_log"
  n5 : NoAttr K (cSto K) "_new_log"
  n6 : NoAttr K (cSto K) "_budget"
  n7 : NoAttr K (cSto K) "_done"
theorem put_same {f : Str} {v : V} : ∀ {fs : List (Str × V)}, fs.lookup f = some v → ∀ u, (putF f u fs).length = fs.length
  | (g, x) :: r, h, u => by
    show (if g = f then (g, u) :: r else (g, x) :: putF f u r).length = _
    by_cases e : g = f
    · rw [if_pos e]; rfl
    · rw [if_neg e, List.length_cons, List.length_cons, put_same (by
        have hb : (f == g) = false := by
          rw [beq_eq_false_iff_ne]
          exact fun z => e z.symm
        simpa [List.lookup, hb] using h) u]
theorem tps_upd {H : Hp} {a : Addr} {o : HO} : ∀ {w : List (Str × Addr)} {tp : List (Str × List Int)}, Tps H w tp → (∀ b ∈ w.map (·.2), b ≠ a) → Tps (upd H a o) w tp
  | _, _, .nil, _ => .nil
  | _, _, .cons h t, n => .cons ⟨h.1, by rw [upd_ne (n _ (List.mem_cons_self ..))]; exact h.2⟩ (tps_upd t fun b m => n b (List.mem_cons_of_mem _ m))
structure Foot (a fd td ad : Addr) (l : List Addr) : Prop where
  fa : fd ≠ a
  ta : td ≠ a
  aa : ad ≠ a
  tf : td ≠ fd
  af : ad ≠ fd
  at_ : ad ≠ td
  la : ∀ b ∈ l, b ≠ a
  lf : ∀ b ∈ l, b ≠ fd
  lt : ∀ b ∈ l, b ≠ td
  ld : ∀ b ∈ l, b ≠ ad
  nd : l.Nodup
theorem foot_ne {a fd td ad : Addr} {l : List Addr} (h : (a :: fd :: td :: ad :: l).Nodup) : Foot a fd td ad l := by
  rw [List.nodup_cons, List.nodup_cons, List.nodup_cons, List.nodup_cons] at h
  obtain ⟨h1, h2, h3, h4, h5⟩ := h
  refine ⟨fun e => h1 ?_, fun e => h1 ?_, fun e => h1 ?_, fun e => h2 ?_, fun e => h2 ?_, fun e => h3 ?_, fun b m e => h1 ?_, fun b m e => h2 ?_, fun b m e => h3 ?_, fun b m e => h4 ?_, h5⟩
  · rw [← e]; simp
  · rw [← e]; simp
  · rw [← e]; simp
  · rw [← e]; simp
  · rw [← e]; simp
  · rw [← e]; simp
  · rw [← e]; simp [m]
  · rw [← e]; simp [m]
  · rw [← e]; simp [m]
  · rw [← e]; exact m
section
variable {K : PySem.W.Frag} {H : Hp} {a dx fd td ad ld nd : Addr} {S : S0} {fs : List (Str × V)} {fw tw : List (Str × Addr)} {aq : List Addr} {P : V → Prop}
/-- one thing counted -/
theorem StoX.count (x : StoX K H a S dx fd td ad ld nd fs fw tw aq) (n : Int) :
    StoX K (upd H a (.ins (cSto K) dx (putF "_done" (.int n) fs))) a { S with n := n } dx fd td ad ld nd (putF "_done" (.int n) fs) fw tw aq := by
  have hm : a ∈ foot a fd td ad tw := List.mem_cons_self ..
  have ft := foot_ne x.nd
  refine ⟨upd_same, ?_, ?_, ?_, ?_, ?_, ?_, ?_, ?_, fun m hm2 => ?_, by rw [upd_ne ft.fa]; exact x.f1, by rw [upd_ne ft.ta]; exact x.t1, by rw [upd_ne ft.aa]; exact x.a1, by rw [hid_upd_in hm]; exact x.f2, tps_upd x.t2 ft.la, by rw [hid_upd_in hm]; exact x.a2, by rw [hid_upd_in hm]; exact x.g1, by rw [hid_upd_in hm]; exact x.g2, x.nd, x.fn, x.tn⟩
  · rw [put_same x.l7]; exact x.len
  · rw [lookup_putF, if_neg (by decide)]; exact x.l1
  · rw [lookup_putF, if_neg (by decide)]; exact x.l2
  · rw [lookup_putF, if_neg (by decide)]; exact x.l3
  · rw [lookup_putF, if_neg (by decide)]; exact x.l4
  · rw [lookup_putF, if_neg (by decide)]; exact x.l5
  · rw [lookup_putF, if_neg (by decide)]; exact x.l6
  · rw [lookup_putF, if_pos rfl]
  · rw [lookup_putF, if_neg (fun e => hm2 (by rw [e]; decide))]; exact x.l0 m hm2
theorem StoX.same {H' : Hp} (x : StoX K H a S dx fd td ad ld nd fs fw tw aq) (s : Same H H') : StoX K H' a S dx fd td ad ld nd fs fw tw aq :=
  ⟨s _ _ x.ins, x.len, x.l1, x.l2, x.l3, x.l4, x.l5, x.l6, x.l7, x.l0, s _ _ x.f1, s _ _ x.t1, s _ _ x.a1, fls_same x.f2 (hid_same s), tps_same x.t2 s, ats_same x.a2 (hid_same s), hid_same s _ _ x.g1, hid_same s _ _ x.g2, x.nd, x.fn, x.tn⟩
theorem s_files (t : STT K) (x : StoX K H a S dx fd td ad ld nd fs fw tw aq) (q : P (.ref fd)) : ∃ a' C dx fs v, V.ref a = .ref a' ∧ H a' = some (.ins C dx fs) ∧ Cls K C ∧ NoAttr K C "_files" ∧ fs.lookup ("_files" : Str) = some v ∧ P v := ⟨a, _, dx, fs, _, rfl, x.ins, t.cl, t.n1, x.l1, q⟩
theorem s_temps (t : STT K) (x : StoX K H a S dx fd td ad ld nd fs fw tw aq) (q : P (.ref td)) : ∃ a' C dx fs v, V.ref a = .ref a' ∧ H a' = some (.ins C dx fs) ∧ Cls K C ∧ NoAttr K C "_temps" ∧ fs.lookup ("_temps" : Str) = some v ∧ P v := ⟨a, _, dx, fs, _, rfl, x.ins, t.cl, t.n2, x.l2, q⟩
theorem s_attic (t : STT K) (x : StoX K H a S dx fd td ad ld nd fs fw tw aq) (q : P (.ref ad)) : ∃ a' C dx fs v, V.ref a = .ref a' ∧ H a' = some (.ins C dx fs) ∧ Cls K C ∧ NoAttr K C "_attic" ∧ fs.lookup ("_attic" : Str) = some v ∧ P v := ⟨a, _, dx, fs, _, rfl, x.ins, t.cl, t.n3, x.l3, q⟩
theorem s_log (t : STT K) (x : StoX K H a S dx fd td ad ld nd fs fw tw aq) (q : P (.ref ld)) : ∃ a' C dx fs v, V.ref a = .ref a' ∧ H a' = some (.ins C dx fs) ∧ Cls K C ∧ NoAttr K C "_log" ∧ fs.lookup ("_log" : Str) = some v ∧ P v := ⟨a, _, dx, fs, _, rfl, x.ins, t.cl, t.n4, x.l4, q⟩
theorem s_nlog (t : STT K) (x : StoX K H a S dx fd td ad ld nd fs fw tw aq) (q : P (.ref nd)) : ∃ a' C dx fs v, V.ref a = .ref a' ∧ H a' = some (.ins C dx fs) ∧ Cls K C ∧ NoAttr K C "_new_log" ∧ fs.lookup ("_new_log" : Str) = some v ∧ P v := ⟨a, _, dx, fs, _, rfl, x.ins, t.cl, t.n5, x.l5, q⟩
theorem s_budget (t : STT K) (x : StoX K H a S dx fd td ad ld nd fs fw tw aq) (q : P .non) : ∃ a' C dx fs v, V.ref a = .ref a' ∧ H a' = some (.ins C dx fs) ∧ Cls K C ∧ NoAttr K C "_budget" ∧ fs.lookup ("_budget" : Str) = some v ∧ P v := ⟨a, _, dx, fs, _, rfl, x.ins, t.cl, t.n6, x.l6, q⟩
theorem s_done (t : STT K) (x : StoX K H a S dx fd td ad ld nd fs fw tw aq) (q : P (.int S.n)) : ∃ a' C dx fs v, V.ref a = .ref a' ∧ H a' = some (.ins C dx fs) ∧ Cls K C ∧ NoAttr K C "_done" ∧ fs.lookup ("_done" : Str) = some v ∧ P v := ⟨a, _, dx, fs, _, rfl, x.ins, t.cl, t.n7, x.l7, q⟩
theorem s_meth {m : Str} {R : Prop} {F : List Addr} (x : Sto K H F a S) (hm : m ∉ (["_files", "_temps", "_attic", "_log", "_new_log", "_budget", "_done"] : List Str)) (q : R) : ∃ a' dx fs, V.ref a = .ref a' ∧ H a' = some (.ins (cSto K) dx fs) ∧ fs.lookup m = none ∧ R := by
  obtain ⟨dx, fd, td, ad, ld, nd, fs, fw, tw, aq, rfl, x⟩ := x
  exact ⟨a, dx, fs, rfl, x.ins, x.l0 m hm, q⟩
end
theorem vec_fr {K : PySem.W.Frag} {D : List Addr} {H H1 : Hp} {a : Addr} {v : Vc} (h : Vec K H a v) (f : Fr D H H1) (n : ∀ d ∈ D, NT H d) : Vec K H1 a v := ((vec_hid h n).same (hid_fr f)).same hid_sub
theorem sqT_fr {K : PySem.W.Frag} {D : List Addr} {H H1 : Hp} {a : Addr} {v : List V} (h : SqT K H a v) (f : Fr D H H1) (n : ∀ d ∈ D, NT H d) : SqT K H1 a v := same_tup hid_sub (same_tup (hid_fr f) (sqT_hid h n))
/-- not a list -/
def NL (H : Hp) (d : Addr) : Prop := (∀ xs, H d ≠ some (.lst xs)) ∧ ∀ c xs, H d ≠ some (.frz c (.lst xs))
theorem nl_ins {H : Hp} {d C dx : Addr} {fs : List (Str × V)} (h : H d = some (.ins C dx fs)) : NL H d := ⟨fun _ z => (by rw [h] at z; cases z), fun _ _ z => (by rw [h] at z; cases z)⟩
theorem seq_fr {K : PySem.W.Frag} {D : List Addr} {H H1 : Hp} {a : Addr} {v : List V} (h : SqL K H a v) (f : Fr D H H1) (n : ∀ d ∈ D, NL H d) : SqL K H1 a v := by
  rcases h with (h | ⟨c9, h⟩) | h
  · exact .inl (.inl (f _ _ (fun m => (n a m).1 _ h) h))
  · exact .inl (.inr ⟨c9, f _ _ (fun m => (n a m).2 _ _ h) h⟩)
  · exact .inr h
theorem StoX.put_attic {K : PySem.W.Frag} {H : Hp} {a dx fd td ad ld nd : Addr} {S : S0} {fs : List (Str × V)} {fw tw : List (Str × Addr)} {aq : List Addr} (x : StoX K H a S dx fd td ad ld nd fs fw tw aq) {t : Addr} {r : Str × (Vc × List Int)}
    (h : AttA K (hid (foot a fd td ad tw) H) t r) : StoX K (upd H ad (.lst (aq.map V.ref ++ [.ref t]))) a { S with at_ := S.at_ ++ [r] } dx fd td ad ld nd fs fw tw (aq ++ [t]) := by
  have hm : ad ∈ foot a fd td ad tw := by simp [foot]
  have ft := foot_ne x.nd
  refine ⟨by rw [upd_ne (Ne.symm ft.aa)]; exact x.ins, x.len, x.l1, x.l2, x.l3, x.l4, x.l5, x.l6, x.l7, x.l0, by rw [upd_ne (Ne.symm ft.af)]; exact x.f1, by rw [upd_ne (Ne.symm ft.at_)]; exact x.t1, by rw [upd_same, List.map_append]; rfl, by rw [hid_upd_in hm]; exact x.f2, tps_upd x.t2 ft.ld, ?_, by rw [hid_upd_in hm]; exact x.g1, by rw [hid_upd_in hm]; exact x.g2, x.nd, x.fn, x.tn⟩
  rw [hid_upd_in hm]
  exact Paired.snoc x.a2 h
theorem upd3 {H : Hp} {l t : Addr} {x y z : HO} (n : l ≠ t) : upd (upd (upd H l x) t y) l z = upd (upd H t y) l z := by
  funext b
  by_cases e : b = l
  · rw [e, upd_same, upd_same]
  · rw [upd_ne e, upd_ne e]
    by_cases e2 : b = t
    · rw [e2, upd_same, upd_same]
    · rw [upd_ne e2, upd_ne e2, upd_ne e]
theorem lk_none {β : Type} {nm : Str} : ∀ {l : List (Str × β)}, nm ∉ l.map (·.1) → lk nm l = none
  | [], _ => rfl
  | x :: l, h => by
    show (if x.1 = nm then some x.2 else lk nm l) = none
    rw [if_neg fun e => h (by rw [← e]; exact List.mem_cons_self ..)]
    exact lk_none fun m => h (List.mem_cons_of_mem _ m)
theorem lk_not {β : Type} {nm : Str} {l : List (Str × β)} (h : lk nm l = none) : nm ∉ l.map (·.1) := fun m => by
  obtain ⟨r, e, _⟩ := lk_mem m
  rw [h] at e; cases e
abbrev ad1 (nm : Str) (b : Int) : Str × List Int → Str × List Int := fun r => if r.1 = nm then (r.1, r.2 ++ [b]) else r
theorem ad1_fst (nm : Str) (b : Int) (r : Str × List Int) : (ad1 nm b r).1 = r.1 := by
  unfold ad1
  split <;> rfl
theorem ad1_names (nm : Str) (b : Int) (tp : List (Str × List Int)) : (tp.map (ad1 nm b)).map (·.1) = tp.map (·.1) := by
  rw [List.map_map]
  exact List.map_congr_left fun r _ => ad1_fst nm b r
theorem ad1_id {nm : Str} {b : Int} : ∀ {tp : List (Str × List Int)}, nm ∉ tp.map (·.1) → tp.map (ad1 nm b) = tp
  | [], _ => rfl
  | x :: l, h => by
    rw [List.map_cons, ad1_id fun m => h (List.mem_cons_of_mem _ m), ad1, if_neg fun e => h (by rw [← e]; exact List.mem_cons_self ..)]
theorem tps_names {H : Hp} : ∀ {w : List (Str × Addr)} {tp : List (Str × List Int)}, Tps H w tp → w.map (·.1) = tp.map (·.1)
  | _, _, .nil => rfl
  | _, _, .cons h t => by rw [List.map_cons, List.map_cons, tps_names t, h.1]
theorem tps_add {H : Hp} {nm : Str} {q : Addr} {b : Int} : ∀ {w : List (Str × Addr)} {tp : List (Str × List Int)} {rr : List Int}, Tps H w tp → (w.map (·.2)).Nodup → (tp.map (·.1)).Nodup → (nm, q) ∈ w → lk nm tp = some rr →
    Tps (upd H q (.lst ((rr ++ [b]).map V.int))) w (tp.map (ad1 nm b))
  | _, _, _, .nil, _, _, m, _ => by cases m
  | x :: w, r :: tp, rr, .cons h t, n1, n2, m, e => by
    rw [List.map_cons, List.nodup_cons] at n1 n2
    by_cases z : r.1 = nm
    · have e2 : x.2 = q := by
        rcases List.mem_cons.mp m with y | y
        · rw [← y]
        · refine absurd ?_ n2.1
          rw [z, ← tps_names t]
          exact List.mem_map.mpr ⟨_, y, rfl⟩
      have e3 : rr = r.2 := by
        have : (if r.1 = nm then some r.2 else lk nm tp) = some rr := e
        rw [if_pos z] at this
        exact (Option.some.inj this).symm
      have e4 : tp.map (ad1 nm b) = tp := ad1_id (by rw [← z]; exact n2.1)
      rw [List.map_cons, e4]
      refine .cons ⟨by rw [ad1_fst]; exact h.1, ?_⟩ (tps_upd t fun y my => fun e5 => n1.1 (by rw [e2, ← e5]; exact my))
      rw [e2, upd_same, ad1, if_pos z, e3]
    · have m2 : (nm, q) ∈ w := by
        rcases List.mem_cons.mp m with y | y
        · exact absurd (by rw [← h.1, ← y]) z
        · exact y
      have e3 : lk nm tp = some rr := by
        have : (if r.1 = nm then some r.2 else lk nm tp) = some rr := e
        rwa [if_neg z] at this
      have e5 : x.2 ≠ q := fun e6 => n1.1 (by rw [e6]; exact List.mem_map.mpr ⟨_, m2, rfl⟩)
      rw [List.map_cons]
      refine .cons ⟨by rw [ad1_fst]; exact h.1, ?_⟩ (tps_add t n1.2 n2.2 m2 e3)
      rw [upd_ne e5, ad1, if_neg z]
      exact h.2
section
variable {K : PySem.W.Frag} {H : Hp} {a dx fd td ad ld nd : Addr} {S : S0} {fs : List (Str × V)} {fw tw : List (Str × Addr)} {aq : List Addr} {nm : Str} {b : Int}
theorem StoX.put_old (x : StoX K H a S dx fd td ad ld nd fs fw tw aq) {q : Addr} {r : List Int} (hq : (nm, q) ∈ tw) (hr : lk nm S.tp = some r) :
    StoX K (upd H q (.lst ((r ++ [b]).map V.int))) a { S with tp := ap1 nm S.tp b } dx fd td ad ld nd fs fw tw aq := by
  have mq : q ∈ tw.map (·.2) := List.mem_map.mpr ⟨_, hq, rfl⟩
  have hm : q ∈ foot a fd td ad tw := by simp only [foot, List.mem_cons]; exact .inr (.inr (.inr (.inr mq)))
  have ft := foot_ne x.nd
  have e : ap1 nm S.tp b = S.tp.map (ad1 nm b) := by unfold ap1; rw [hr]
  refine ⟨by rw [upd_ne (Ne.symm (ft.la _ mq))]; exact x.ins, x.len, x.l1, x.l2, x.l3, x.l4, x.l5, x.l6, x.l7, x.l0, by rw [upd_ne (Ne.symm (ft.lf _ mq))]; exact x.f1, by rw [upd_ne (Ne.symm (ft.lt _ mq))]; exact x.t1, by rw [upd_ne (Ne.symm (ft.ld _ mq))]; exact x.a1, by rw [hid_upd_in hm]; exact x.f2, ?_, by rw [hid_upd_in hm]; exact x.a2, by rw [hid_upd_in hm]; exact x.g1, by rw [hid_upd_in hm]; exact x.g2, x.nd, x.fn, ?_⟩
  · show Tps _ tw (ap1 nm S.tp b)
    rw [e]
    exact tps_add x.t2 ft.nd x.tn hq hr
  · show ((ap1 nm S.tp b).map (·.1)).Nodup
    rw [e, ad1_names]
    exact x.tn
theorem StoX.put_new (x : StoX K H a S dx fd td ad ld nd fs fw tw aq) {q : Addr} (hq : H q = none) (hr : lk nm S.tp = none) :
    StoX K (upd (upd H td (.dK (dct tw ++ [(Sum.inr nm, .ref q)]))) q (.lst [.int b])) a { S with tp := ap1 nm S.tp b } dx fd td ad ld nd fs fw (tw ++ [(nm, q)]) aq := by
  have ft := foot_ne x.nd
  have nq : q ∉ foot a fd td ad tw := fun m => by
    obtain ⟨⟨o, e⟩, _⟩ := x.has q m
    rw [hq] at e; cases e
  have e : ap1 nm S.tp b = S.tp ++ [(nm, [b])] := by unfold ap1; rw [hr]
  have ef : foot a fd td ad (tw ++ [(nm, q)]) = foot a fd td ad tw ++ [q] := by simp [foot]
  have qa : q ≠ a := fun z => nq (by simp [foot, z])
  have qf : q ≠ fd := fun z => nq (by simp [foot, z])
  have qt : q ≠ td := fun z => nq (by simp [foot, z])
  have qd : q ≠ ad := fun z => nq (by simp [foot, z])
  have sm : Same (hid (foot a fd td ad tw) H) (hid (foot a fd td ad (tw ++ [(nm, q)])) (upd (upd H td (.dK (dct tw ++ [(Sum.inr nm, .ref q)]))) q (.lst [.int b]))) := fun y o h => by
    obtain ⟨n, h⟩ := hid_some h
    have n1 : y ≠ q := ne_of_none h hq
    have n2 : y ≠ td := fun z => n (by simp [foot, z])
    rw [ef, hid_at (by rw [List.mem_append, List.mem_singleton]; exact fun z => z.elim n n1), upd_ne n1, upd_ne n2]
    exact h
  refine ⟨by rw [upd_ne (Ne.symm qa), upd_ne (Ne.symm ft.ta)]; exact x.ins, x.len, x.l1, x.l2, x.l3, x.l4, x.l5, x.l6, x.l7, x.l0, by rw [upd_ne (Ne.symm qf), upd_ne (Ne.symm ft.tf)]; exact x.f1, by rw [upd_ne (Ne.symm qt), upd_same]; simp [dct], by rw [upd_ne (Ne.symm qd), upd_ne ft.at_]; exact x.a1, fls_same x.f2 sm, ?_, ats_same x.a2 sm, sm _ _ x.g1, sm _ _ x.g2, ?_, x.fn, ?_⟩
  · show Tps _ _ (ap1 nm S.tp b)
    rw [e]
    refine Paired.snoc (tps_upd (tps_upd x.t2 ft.lt) fun y m z => nq ?_) ⟨rfl, upd_same⟩
    rw [← z]
    simp only [foot, List.mem_cons]
    exact .inr (.inr (.inr (.inr m)))
  · rw [ef, List.nodup_append]
    refine ⟨x.nd, by simp, fun y m z mz => ?_⟩
    rw [List.mem_singleton.mp mz]
    exact fun e => nq (by rw [← e]; exact m)
  · show ((ap1 nm S.tp b).map (·.1)).Nodup
    rw [e, List.map_append, List.nodup_append]
    refine ⟨x.tn, by simp, fun y m z mz => ?_⟩
    rw [List.mem_singleton.mp mz]
    intro e
    have e : y = nm := e
    exact lk_not hr (by rw [← e]; exact m)
end
theorem ap1_len (nm : Str) (tp : List (Str × List Int)) (b : Int) (m n : Nat) (h1 : tp.length ≤ m) (h2 : ∀ r ∈ tp, r.2.length ≤ n) : (ap1 nm tp b).length ≤ m + 1 ∧ ∀ r ∈ ap1 nm tp b, r.2.length ≤ n + 1 := by
  unfold ap1
  cases lk nm tp with
  | none =>
    refine ⟨by simp; omega, fun r hr => ?_⟩
    rcases List.mem_append.mp hr with h | h
    · have := h2 r h; omega
    · rw [List.mem_singleton.mp h]; simp
  | some o =>
    refine ⟨by simp; omega, fun r hr => ?_⟩
    obtain ⟨r0, h, rfl⟩ := List.mem_map.mp hr
    have := h2 r0 h
    split
    · simp; omega
    · omega
theorem app_len (nm : Str) : ∀ (bs : List Int) (tp : List (Str × List Int)) (m n : Nat), tp.length ≤ m → (∀ r ∈ tp, r.2.length ≤ n) → (bs.foldl (ap1 nm) tp).length ≤ m + bs.length ∧ ∀ r ∈ bs.foldl (ap1 nm) tp, r.2.length ≤ n + bs.length
  | [], _, _, _, h1, h2 => ⟨h1, h2⟩
  | b :: bs, tp, m, n, h1, h2 => by
    obtain ⟨h3, h4⟩ := ap1_len nm tp b m n h1 h2
    obtain ⟨h5, h6⟩ := app_len nm bs (ap1 nm tp b) (m + 1) (n + 1) h3 h4
    rw [List.foldl_cons, List.length_cons]
    exact ⟨by omega, fun r hr => by have := h6 r hr; omega⟩
theorem upd_none {H : Hp} {a p : Addr} {o : HO} (h : upd H a o p = none) : p ≠ a ∧ H p = none := by
  have n : p ≠ a := fun z => by rw [z, upd_same] at h; cases h
  exact ⟨n, by rwa [upd_ne n] at h⟩
theorem fr_back {S : List Addr} {H H' : Hp} {p : Addr} (f : Fr S H H') (n : p ∉ S) (h : H' p = none) : H p = none := by
  cases e : H p with
  | none => rfl
  | some o => rw [f _ _ n e] at h; cases h
/-! ### rows of an attic: what is found, what goes -/
abbrev Rw := Str × (Vc × List Int)
section
variable {α : Type}
def posP (p : α → Bool) : Nat → List α → List Nat
  | _, [] => []
  | o, r :: l => if p r = true then o :: posP p (o + 1) l else posP p (o + 1) l
def rmP (p : α → Bool) : Nat → List α → List α
  | 0, l => l
  | k + 1, l => (rmP p k l).eraseP p
theorem pos_up (p : α → Bool) : ∀ (l : List α) (o : Nat), posP p (o + 1) l = (posP p o l).map (· + 1)
  | [], _ => rfl
  | r :: l, o => by
    unfold posP
    by_cases h : p r = true
    · rw [if_pos h, if_pos h, pos_up p l (o + 1), List.map_cons]
    · rw [if_neg h, if_neg h, pos_up p l (o + 1)]
theorem pos_dn (p : α → Bool) (l : List α) (o : Nat) : posP p o l = (posP p (o + 1) l).map (· - 1) := by
  rw [pos_up, List.map_map]
  conv => lhs; rw [← List.map_id (posP p o l)]
  exact List.map_congr_left fun x _ => by simp
theorem pos_rm (p : α → Bool) : ∀ (l : List α) (o i : Nat) (t : List Nat), posP p o l = i :: t → posP p o (l.eraseP p) = t.map (· - 1)
  | [], _, _, _, h => by cases h
  | r :: l, o, i, t, h => by
    unfold posP at h
    by_cases e : p r = true
    · rw [if_pos e] at h
      cases h
      rw [List.eraseP_cons_of_pos e]
      exact pos_dn p l o
    · rw [if_neg e] at h
      rw [List.eraseP_cons_of_neg e]
      show (if p r = true then _ else _) = _
      rw [if_neg e]
      exact pos_rm p l (o + 1) i t h
theorem pos_len (p : α → Bool) : ∀ (l : List α) (o : Nat), (posP p o l).length = (l.filter p).length
  | [], _ => rfl
  | r :: l, o => by
    unfold posP
    by_cases e : p r = true
    · rw [if_pos e, List.filter_cons_of_pos e, List.length_cons, List.length_cons, pos_len p l]
    · rw [if_neg e, List.filter_cons_of_neg e, pos_len p l]
theorem pos_snoc (p : α → Bool) (r : α) : ∀ (l : List α) (o : Nat), posP p o (l ++ [r]) = posP p o l ++ (if p r = true then [o + l.length] else [])
  | [], o => by
    show (if p r = true then _ else _) = _
    rfl
  | x :: l, o => by
    have ih := pos_snoc p r l (o + 1)
    rw [show o + 1 + l.length = o + (x :: l).length from by rw [List.length_cons]; omega] at ih
    show (if p x = true then o :: posP p (o + 1) (l ++ [r]) else posP p (o + 1) (l ++ [r])) = (if p x = true then o :: posP p (o + 1) l else posP p (o + 1) l) ++ _
    rw [ih]
    split <;> rfl
/-- the first place -/
theorem pos_head (p : α → Bool) : ∀ (l : List α) (o i : Nat) (t : List Nat), posP p o l = i :: t → o ≤ i ∧ i - o < l.length ∧ l.eraseP p = l.eraseIdx (i - o) ∧
    (∃ r, l[i - o]? = some r ∧ p r = true ∧ ∃ f, l.filter p = r :: f) ∧ ∀ m r, m < i - o → l[m]? = some r → p r = false
  | [], _, _, _, h => by cases h
  | r :: l, o, i, t, h => by
    unfold posP at h
    by_cases e : p r = true
    · rw [if_pos e] at h
      cases h
      rw [Nat.sub_self]
      refine ⟨Nat.le_refl _, by simp, by rw [List.eraseP_cons_of_pos e]; rfl, ⟨r, rfl, e, _, List.filter_cons_of_pos e⟩, fun m _ h => absurd h (Nat.not_lt_zero _)⟩
    · rw [if_neg e] at h
      obtain ⟨h1, h2, h3, ⟨x, h4, h5, f, h6⟩, h7⟩ := pos_head p l (o + 1) i t h
      have e1 : i - o = (i - (o + 1)) + 1 := by omega
      rw [e1]
      refine ⟨by omega, by rw [List.length_cons]; omega, by rw [List.eraseP_cons_of_neg e, h3]; rfl, ⟨x, by rw [List.getElem?_cons_succ]; exact h4, h5, f, by rw [List.filter_cons_of_neg e]; exact h6⟩, fun m y hm hy => ?_⟩
      cases m with
      | zero => rw [List.getElem?_cons_zero] at hy; cases hy; simpa using e
      | succ m => rw [List.getElem?_cons_succ] at hy; exact h7 m y (by omega) hy
theorem filt_rm (p : α → Bool) : ∀ l : List α, (l.eraseP p).filter p = (l.filter p).tail
  | [] => rfl
  | r :: l => by
    by_cases e : p r = true
    · rw [List.eraseP_cons_of_pos e, List.filter_cons_of_pos e]; rfl
    · rw [List.eraseP_cons_of_neg e, List.filter_cons_of_neg e, List.filter_cons_of_neg e, filt_rm p l]
theorem filt_rmP (p : α → Bool) (l : List α) : ∀ k, (rmP p k l).filter p = (l.filter p).drop k
  | 0 => rfl
  | k + 1 => by
    show ((rmP p k l).eraseP p).filter p = _
    rw [filt_rm, filt_rmP p l k, List.tail_drop]
theorem pos_rmP (p : α → Bool) (l : List α) : ∀ k, posP p 0 (rmP p k l) = ((posP p 0 l).drop k).map (· - k)
  | 0 => by simp [rmP]
  | k + 1 => by
    show posP p 0 ((rmP p k l).eraseP p) = _
    have ih := pos_rmP p l k
    cases e : posP p 0 (rmP p k l) with
    | nil =>
      rw [e] at ih
      have d : (posP p 0 l).drop k = [] := List.map_eq_nil_iff.mp ih.symm
      have d2 : (posP p 0 l).drop (k + 1) = [] := by rw [List.drop_eq_nil_iff] at d ⊢; omega
      have f0 : (rmP p k l).filter p = [] := by
        have := pos_len p (rmP p k l) 0
        rw [e] at this
        exact List.length_eq_zero_iff.mp this.symm
      have f1 : (posP p 0 ((rmP p k l).eraseP p)).length = 0 := by rw [pos_len, filt_rm, f0]; rfl
      rw [d2, List.length_eq_zero_iff.mp f1]; rfl
    | cons i t =>
      rw [pos_rm p _ 0 i t e]
      rw [e] at ih
      cases eD : (posP p 0 l).drop k with
      | nil => rw [eD] at ih; cases ih
      | cons x d =>
        rw [eD, List.map_cons] at ih
        obtain ⟨_, rfl⟩ := List.cons.inj ih
        rw [← List.tail_drop, eD, List.tail_cons, List.map_map]
        refine List.map_congr_left fun x _ => ?_
        show x - k - 1 = x - (k + 1)
        omega
theorem rmP_len (p : α → Bool) (l : List α) : ∀ k, (rmP p k l).length ≤ l.length
  | 0 => Nat.le_refl _
  | k + 1 => Nat.le_trans (by show ((rmP p k l).eraseP p).length ≤ _; exact List.length_eraseP_le) (rmP_len p l k)
theorem rmP_mem (p : α → Bool) (l : List α) : ∀ k r, r ∈ rmP p k l → r ∈ l
  | 0, _, h => h
  | k + 1, r, h => rmP_mem p l k r (List.mem_of_mem_eraseP h)
theorem erase_not (p : α → Bool) : ∀ l : List α, (l.eraseP p).filter (fun r => !p r) = l.filter (fun r => !p r)
  | [] => rfl
  | r :: l => by
    by_cases e : p r = true
    · rw [List.eraseP_cons_of_pos e, List.filter_cons_of_neg (by simp [e])]
    · rw [List.eraseP_cons_of_neg e, List.filter_cons_of_pos (by simp [e]), List.filter_cons_of_pos (by simp [e]), erase_not p l]
theorem rmP_not (p : α → Bool) (l : List α) : ∀ k, (rmP p k l).filter (fun r => !p r) = l.filter (fun r => !p r)
  | 0 => rfl
  | k + 1 => (erase_not p _).trans (rmP_not p l k)
/-- all gone -/
theorem rmP_all (p : α → Bool) (l : List α) : rmP p (l.filter p).length l = l.filter (fun r => !p r) := by
  have h1 := filt_rmP p l (l.filter p).length
  rw [List.drop_length] at h1
  rw [← rmP_not p l (l.filter p).length]
  refine (List.filter_eq_self.mpr fun r m => ?_).symm
  cases e : p r with
  | false => rfl
  | true =>
    have : r ∈ (rmP p (l.filter p).length l).filter p := List.mem_filter.mpr ⟨m, e⟩
    rw [h1] at this
    cases this
end
def isN (nm : Str) (r : Rw) : Bool := decide (r.1 = nm)
def totB (l : List Rw) : Nat := (l.map fun r => r.2.2.length).sum
/-- how many of a name go -/
def overN (e : Nat) (nm : Str) (l : List Rw) : Nat := (l.filter (isN nm)).length - e
def stpN (e : Nat) (s : List Rw × List Rw) (nm : Str) : List Rw × List Rw := (s.1 ++ (s.2.filter (isN nm)).take (overN e nm s.2), rmP (isN nm) (overN e nm s.2) s.2)
def cutG (t : Nat) : List Rw → List Rw
  | [] => []
  | r :: l => if t < totB (r :: l) then r :: cutG t l else []
def cutL (t : Nat) : List Rw → List Rw
  | [] => []
  | r :: l => if t < totB (r :: l) then cutL t l else r :: l
abbrev S6 : List Str := ["Z9", "a", "a/b", "b", "c", "longer/names/are/here/abcdefghijklmnopqr"]
def tidA (e : Nat) (l : List Rw) : List Rw × List Rw := S6.foldl (stpN e) ([], l)
def tidG (e t : Nat) (l : List Rw) : List Rw := (tidA e l).1 ++ cutG t (tidA e l).2
def tidL (e t : Nat) (l : List Rw) : List Rw := cutL t (tidA e l).2
theorem stp_none (e : Nat) (g l : List Rw) (nm : Str) (h : nm ∉ l.map (·.1)) : stpN e (g, l) nm = (g, l) := by
  have f : l.filter (isN nm) = [] := List.filter_eq_nil_iff.mpr fun r m => by
    unfold isN
    intro z
    exact h (List.mem_map.mpr ⟨r, m, of_decide_eq_true z⟩)
  have o : overN e nm l = 0 := by unfold overN; rw [f, List.length_nil, Nat.zero_sub]
  show (g ++ (l.filter (isN nm)).take (overN e nm l), rmP (isN nm) (overN e nm l) l) = (g, l)
  rw [o, f, List.take_nil, List.append_nil]
  rfl
/-- names that are not there change nothing -/
theorem fold_there (e : Nat) (l0 : List Rw) : ∀ (ns : List Str) (g l : List Rw), (∀ r ∈ l, r.1 ∈ l0.map (·.1)) → ns.foldl (stpN e) (g, l) = (ns.filter fun x => decide (x ∈ l0.map (·.1))).foldl (stpN e) (g, l)
  | [], _, _, _ => rfl
  | x :: ns, g, l, h => by
    rw [List.foldl_cons]
    by_cases m : x ∈ l0.map (·.1)
    · rw [List.filter_cons_of_pos (by simpa using m), List.foldl_cons]
      exact fold_there e l0 ns _ _ fun r mr => h r (rmP_mem _ _ _ _ mr)
    · rw [List.filter_cons_of_neg (by simpa using m), stp_none e g l x fun z => by
        obtain ⟨r, mr, z⟩ := List.mem_map.mp z
        exact m (z ▸ h r mr)]
      exact fold_there e l0 ns g l h
theorem sub_rising : ∀ (l : List Str) (p : Str → Bool), PyProof.Rows.sortedS l = true → PyProof.Rows.sortedS (l.filter p) = true := fun l p h => by
  have pw : l.Pairwise fun a b : Str => a.cps.toList ≤ b.cps.toList := by
    cases l with
    | nil => exact .nil
    | cons x r => exact rise_pw r x h
  have pf := pw.filter p
  have back : ∀ (r : List Str) (x : Str), (x :: r).Pairwise (fun a b : Str => a.cps.toList ≤ b.cps.toList) → PyProof.Rows.risingS x r = true := fun r => by
    induction r with
    | nil => intro x _; rfl
    | cons y r ih =>
      intro x hp
      obtain ⟨h1, h2⟩ := List.pairwise_cons.mp hp
      show (!Spec.ltCps y.cps.toList x.cps.toList && PyProof.Rows.risingS y r) = true
      rw [ih y h2, Bool.and_true, PyProof.Rows.ltCps_eq]
      have := h1 y (List.mem_cons_self ..)
      rw [decide_eq_false fun z => this z]
      rfl
  revert pf
  generalize l.filter p = m
  intro pf
  cases m with
  | nil => rfl
  | cons x r => exact back r x pf
/-- the program's names are the law's that are there -/
theorem fold_names (e : Nat) (l : List Rw) (ys L : List Str) (h6 : ∀ r ∈ l, r.1 ∈ S6) (n : L.Nodup) (hL : ∀ x, x ∈ L ↔ x ∈ l.map (·.1)) (hp : ys.Perm L) (hs : PyProof.Rows.sortedS ys = true) : ys.foldl (stpN e) ([], l) = tidA e l := by
  have f := fold_there e l S6 [] l fun r m => List.mem_map.mpr ⟨r, m, rfl⟩
  have e1 : ys = S6.filter fun x => decide (x ∈ l.map (·.1)) := by
    refine sorted_one (m := S6.filter fun x => decide (x ∈ l.map (·.1))) ?_ hs (sub_rising S6 _ (by decide +kernel))
    have nf : (S6.filter fun x => decide (x ∈ l.map (·.1))).Nodup := (show S6.Nodup by decide +kernel).filter _
    refine (List.perm_ext_iff_of_nodup (hp.nodup_iff.mpr n) nf).mpr fun x => ?_
    rw [hp.mem_iff, hL, List.mem_filter, decide_eq_true_eq]
    refine ⟨fun h => ⟨?_, h⟩, fun h => h.2⟩
    obtain ⟨r, m, e⟩ := List.mem_map.mp h
    exact e ▸ h6 r m
  unfold tidA
  rw [f, ← e1]
theorem stp_mem (e : Nat) (s : List Rw × List Rw) (nm : Str) : ∀ r ∈ (stpN e s nm).2, r ∈ s.2 := fun r h => rmP_mem _ _ _ r h
theorem stp_len (e : Nat) (s : List Rw × List Rw) (nm : Str) : (stpN e s nm).2.length ≤ s.2.length := rmP_len _ _ _
theorem stpG_len (e : Nat) (s : List Rw × List Rw) (nm : Str) : (stpN e s nm).1.length ≤ s.1.length + s.2.length := by
  show (s.1 ++ (s.2.filter (isN nm)).take (overN e nm s.2)).length ≤ _
  rw [List.length_append, List.length_take]
  have := List.length_filter_le (isN nm) s.2
  omega
theorem at_cut_mem (t : Nat) : ∀ (l : List Rw), ∀ r ∈ cutL t l, r ∈ l
  | [], _, h => h
  | x :: l, r, h => by
    unfold cutL at h
    split at h
    · exact List.mem_cons_of_mem _ (at_cut_mem t l r h)
    · exact h
theorem at_cut_len (t : Nat) : ∀ (l : List Rw), (cutL t l).length ≤ l.length
  | [] => Nat.le_refl _
  | x :: l => by
    unfold cutL
    split
    · exact Nat.le_trans (at_cut_len t l) (Nat.le_succ _)
    · exact Nat.le_refl _
theorem at_fold_mem (e : Nat) : ∀ (ns : List Str) (s : List Rw × List Rw), ∀ r ∈ (ns.foldl (stpN e) s).2, r ∈ s.2
  | [], _, _, h => h
  | x :: ns, s, r, h => stp_mem e s x r (at_fold_mem e ns (stpN e s x) r h)
theorem at_fold_len (e : Nat) : ∀ (ns : List Str) (s : List Rw × List Rw), (ns.foldl (stpN e) s).2.length ≤ s.2.length
  | [], _ => Nat.le_refl _
  | x :: ns, s => Nat.le_trans (at_fold_len e ns (stpN e s x)) (stp_len e s x)
theorem at_foldG_len (e : Nat) : ∀ (ns : List Str) (s : List Rw × List Rw), (ns.foldl (stpN e) s).1.length ≤ s.1.length + ns.length * s.2.length
  | [], _ => by simp
  | x :: ns, s => by
    have h1 := at_foldG_len e ns (stpN e s x)
    have h2 := stpG_len e s x
    have h3 := stp_len e s x
    have h4 : ns.length * (stpN e s x).2.length ≤ ns.length * s.2.length := Nat.mul_le_mul_left _ h3
    rw [List.foldl_cons, List.length_cons, Nat.add_mul]
    omega
theorem tid_mem (e t : Nat) (l : List Rw) : ∀ r ∈ tidL e t l, r ∈ l := fun r h => at_fold_mem e S6 ([], l) r (at_cut_mem t _ r h)
theorem tid_len (e t : Nat) (l : List Rw) : (tidL e t l).length ≤ l.length := Nat.le_trans (at_cut_len t _) (at_fold_len e S6 ([], l))
/-- the law's tests of rows, as data -/
def rowD (r : Rw) : PyData := .tuple [.str r.1, .tuple (Dv r.2.1), .list (Di r.2.2)]
def isinR (l : List Rw) (r : Rw) : Bool := (l.map rowD).any fun z => PyData.eqv z (rowD r)
def eqNV (nm : Str) (v : Vc) (r : Rw) : Bool := decide (r.1 = nm) && PyData.eqv (.tuple (Dv r.2.1)) (.tuple (Dv v))
theorem row_plain (r : Rw) : (rowD r).plain = true := by simp [rowD, PyData.plain, PyData.plainAll, plain_ints, dv_plain]
theorem row_depth (r : Rw) : (rowD r).depth ≤ 4 := by
  show PyData.depthAll _ + 1 ≤ 4
  have := dv_depth r.2.1
  simp only [PyData.depthAll, PyData.depth, Vf.depthAll_ints]
  omega
theorem dp_row {K : PySem.W.Frag} {H : Hp} {q : Addr} {r : Rw} (h : AttA K H q r) : Dp K H (.ref q) (rowD r) := by
  obtain ⟨v, l, h1, h2, h3⟩ := h
  exact .tup (SqT.of h1) (.cons (.str _) (.cons (dp_vec h2) (.cons (.lst (SqL.of h3) (dpAll_ints _)) .nil)))
theorem dp_rows {K : PySem.W.Frag} {H : Hp} : ∀ {qs : List Addr} {l : List Rw}, Ats K H qs l → DpAll K H (qs.map V.ref) (l.map rowD)
  | _, _, .nil => .nil
  | _, _, .cons a b => .cons (dp_row a) (dp_rows b)
theorem e_cat {H : Hp} {Q : VK} {a b : Addr} {xs ys : List V} (h1 : H a = some (.lst xs)) (h2 : H b = some (.lst ys)) (hn : xs.length + ys.length ≤ 100000) (q : ∀ p, H p = none → Q (.ref p) (upd H p (.lst (xs ++ ys)))) : rCat (.ref a) (.ref b) H Q :=
  ⟨a, b, xs, ys, rfl, rfl, h1, h2, Nat.le_trans hn (by decide), q⟩
/-! ### rows of blocks, and where a block is near -/
structure NRow where
  kd : Str
  wh : Key
  bl : List Int
def RowA (K : PySem.W.Frag) (H : Hp) (q : Addr) (r : NRow) : Prop := ∃ b, H q = some (.tup [.str r.kd, kV r.wh, .ref b]) ∧ SqT K H b (r.bl.map V.int)
theorem kp_fr {st : Addr} {H H' : Hp} (k : Kp st H H') : Fr [st] H H' := fun x o n e => k x o (fun z => n (List.mem_singleton.mpr z)) e
theorem dr_nt {K : PySem.W.Frag} {st sc : Addr} {ns : List Int} {H : Hp} (d : Dr K st sc ns H) : ∀ a ∈ [st], NT H a := fun a m => by
  obtain ⟨x, y, _, _, e⟩ := d.s
  rw [List.mem_singleton.mp m]
  exact nt_lst e
theorem sqT_kp {K : PySem.W.Frag} {st sc p : Addr} {ns : List Int} {xs : List V} {H H' : Hp} (h : SqT K H p xs) (d : Dr K st sc ns H) (k : Kp st H H') : SqT K H' p xs := sqT_fr h (kp_fr k) (dr_nt d)
theorem dr_free {K : PySem.W.Frag} {st sc p : Addr} {ns : List Int} {H H' : Hp} (d : Dr K st sc ns H') (k : Kp st H H') (h : H' p = none) : H p = none := by
  obtain ⟨x, y, _, _, e⟩ := d.s
  exact k.free ⟨_, e⟩ h
theorem drFr {K : PySem.W.Frag} {H0 H H' : Hp} {st sc : Addr} {ns : List Int} {S : List Addr} (d0 : Dr K st sc ns H0) (k : Kp st H0 H) (d : Dr K st sc ns H) (f : Fr S H H') (b : ∀ x ∈ S, H0 x = none) : Kp st H0 H' ∧ Dr K st sc ns H' := by
  have k' : Kp st H0 H' := fun x o n e => f x o (fun m => by rw [b x m] at e; cases e) (k x o n e)
  refine ⟨k', d0.kp k' ?_⟩
  obtain ⟨x, y, hx, hy, e⟩ := d.s
  refine ⟨x, y, hx, hy, f _ _ (fun m => ?_) e⟩
  obtain ⟨u, v, _, _, e0⟩ := d0.s
  rw [b st m] at e0
  cases e0
theorem kp_same {st : Addr} {H H' : Hp} (k : Kp st H H') : Same (hid [st] H) (hid [st] H') := hid_fr (kp_fr k)
def names6 : List Str := ["a", "b", "a/b", "Z9", "c", "longer/names/are/here/abcdefghijklmnopqr"]
def sp_law_name (K : PySem.W.Frag) : Sp := sp2 fun x y H Q => ∃ (st sc : Addr) (ns : List Int), x = .ref st ∧ y = .ref sc ∧ Dr K st sc ns H ∧ ∀ (z : Str) (H' : Hp), Kp st H H' → Dr K st sc ns H' → z ∈ names6 → Q (.str z) H'
def sp_law_content (K : PySem.W.Frag) : Sp := sp3 fun x y z H Q => ∃ (st sc : Addr) (ns : List Int) (n : Nat), x = .ref st ∧ y = .ref sc ∧ z = .int n ∧ n ≤ 6 ∧ Dr K st sc ns H ∧
  ∀ (q : Addr) (xs : List Int) (H' : Hp), H q = none → Kp st H H' → Dr K st sc ns H' → H' q = some (.lst (xs.map V.int)) → isB xs → xs.length ≤ 4 * n → Q (.ref q) H'
theorem hid_hid {H : Hp} {p : Addr} {F : List Addr} : hid F (hid [p] H) = hid (p :: F) H := by
  funext b
  unfold hid
  by_cases h1 : b ∈ F
  · rw [if_pos h1, if_pos (List.mem_cons_of_mem _ h1)]
  · rw [if_neg h1]
    by_cases h2 : b = p
    · rw [if_pos (by rw [h2]; simp), if_pos (by rw [h2]; simp)]
    · rw [if_neg (by simpa using h2), if_neg (by simp [h1, h2])]
theorem hid_sub2 {H : Hp} {D E : List Addr} : Same (hid E (hid D H)) (hid E H) := fun b o e => by
  obtain ⟨n, e⟩ := hid_some e
  rw [hid_at n]
  exact (hid_some e).2
theorem hid_le {D E : List Addr} {H : Hp} (h : ∀ x ∈ D, x ∈ E) : Same (hid E H) (hid D H) := fun b o e => by
  obtain ⟨n, e⟩ := hid_some e
  rw [hid_at fun m => n (h b m)]
  exact e
/-- a comprehension with a test whose elements stand in a relation to what was met -/
theorem lc_relF {β : Type} {J : It} {n : Nat} {G : Hp → Prop} {Y : Nat → Hp → V → Hp → Prop} (w : Walk J n G Y) {g : TG} {tt : TT} {te : TE} {vs : List Nat} {σ : L2.St} {Da : Addr} {H0 : Hp} {Q : VK} (hD : H0 Da = none) (hn : n ≤ 1000000)
    (hG : ∀ H, Same H0 H → G H) (M : Nat → List β) (m0 : M 0 = []) (ml : ∀ i, i ≤ n → (M i).length ≤ i) (R : β → V → Hp → Prop) (mono : ∀ b v H H', R b v H → Same H H' → R b v H')
    (hs : ∀ (i : Nat) (x : V) (H H' : Hp) (C : VK) (E : Hp → Prop) (acc : HO), i < n → Same H0 H → H Da = some acc → Y i H x H' → (∀ b v H3, M (i + 1) = M i ++ [b] → Same H H3 → R b v (hid [Da] H3) → C v H3) → (∀ H3, M (i + 1) = M i → Same H H3 → E H3) →
      g x (wipe σ vs) H' fun σ2 H2 => wipe σ2 vs = wipe σ vs ∧ tt σ2 H2 fun b H3 => if b = true then te σ2 H3 C else E H3)
    (hd : ∀ (H : Hp) (us : List V), Same H0 H → H Da = some (.lst us) → Paired (fun v b => R b v (hid [Da] H)) us (M n) → Q (.ref Da) H) : LcB J g tt te vs σ Da H0 Q := by
  refine lc_it w (fun i H => Same H0 H ∧ ∃ us, H Da = some (.lst us) ∧ Paired (fun v b => R b v (hid [Da] H)) us (M i)) ⟨same_new hD, [], upd_same, by rw [m0]; exact .nil⟩ (fun i H _ p => hG H p.1) (fun i x H H' hi p y => ?_) (fun H p => ?_)
  · obtain ⟨s1, us, e1, r1⟩ := p
    have lu : us.length ≤ i := by rw [paired_len r1]; exact ml i (Nat.le_of_lt hi)
    refine hs i x H H' _ _ _ hi s1 e1 y (fun b v H3 em s3 r3 => ?_) (fun H3 em s3 => ?_)
    · refine ⟨us, s3 _ _ e1, Nat.lt_of_le_of_lt (by omega : _ ≤ 1000000) (by decide), Same.mut (s1.trans s3) hD, us ++ [v], upd_same, ?_⟩
      rw [hid_upd_in (List.mem_singleton.mpr rfl), em]
      exact Paired.snoc (paired_imp (fun _ _ q => mono _ _ _ _ q (hid_same s3)) r1) r3
    · refine ⟨s1.trans s3, us, s3 _ _ e1, ?_⟩
      rw [em]
      exact paired_imp (fun _ _ q => mono _ _ _ _ q (hid_same s3)) r1
  · obtain ⟨s1, us, e1, r1⟩ := p
    exact hd H us s1 e1 r1
theorem pos_take {α : Type} {p : α → Bool} {l : List α} {i : Nat} {r : α} (h : l[i]? = some r) : posP p 0 (l.take (i + 1)) = posP p 0 (l.take i) ++ (if p r = true then [i] else []) := by
  have hi := (List.getElem?_eq_some_iff.mp h).1
  rw [List.take_add_one, h, Option.toList, pos_snoc, Nat.zero_add, List.length_take, Nat.min_eq_left (Nat.le_of_lt hi)]
theorem filt_take {α : Type} {p : α → Bool} {l : List α} {i : Nat} {r : α} (h : l[i]? = some r) : (l.take (i + 1)).filter p = (l.take i).filter p ++ (if p r = true then [r] else []) := by
  rw [List.take_add_one, h, Option.toList, List.filter_append]
  congr 1
  by_cases e : p r = true
  · rw [if_pos e, List.filter_cons_of_pos e]; rfl
  · rw [if_neg e, List.filter_cons_of_neg e]; rfl
theorem pos_ge {α : Type} (p : α → Bool) : ∀ (l : List α) (o j i : Nat), (posP p o l)[j]? = some i → o + j ≤ i
  | [], _, _, _, h => by simp [posP] at h
  | r :: l, o, j, i, h => by
    unfold posP at h
    by_cases e : p r = true
    · rw [if_pos e] at h
      cases j with
      | zero => rw [List.getElem?_cons_zero] at h; cases h; exact Nat.le_refl _
      | succ j =>
        rw [List.getElem?_cons_succ] at h
        have := pos_ge p l (o + 1) j i h
        omega
    · rw [if_neg e] at h
      have := pos_ge p l (o + 1) j i h
      omega
theorem sum_tot (l : List Rw) : (l.map fun r => ((r.2.2.length : Nat) : Int)).sum = ((totB l : Nat) : Int) := by
  unfold totB
  induction l with
  | nil => rfl
  | cons r l ih => rw [List.map_cons, List.map_cons, List.sum_cons, List.sum_cons, ih]; omega
/-! rules -/
abbrev cRul (K : PySem.W.Frag) : Addr := He.ga K "Rule"
def fs2 (e t : V) : List (Str × V) := putF "total" t (putF "each" e [])
def Rul (K : PySem.W.Frag) (H : Hp) (a : Addr) (e t : Int) : Prop := ∃ dx fs, H a = some (.ins (cRul K) dx fs) ∧ fs.lookup ("each" : Str) = some (.int e) ∧ fs.lookup ("total" : Str) = some (.int t)
theorem Rul.same {K : PySem.W.Frag} {H H' : Hp} {a : Addr} {e t : Int} (h : Rul K H a e t) (s : Same H H') : Rul K H' a e t := let ⟨dx, fs, h1, h2⟩ := h; ⟨dx, fs, s _ _ h1, h2⟩
theorem r_each {K : PySem.W.Frag} {H : Hp} {a : Addr} {e t : Int} {P : V → Prop} (c1 : Cls K (cRul K)) (c2 : NoAttr K (cRul K) "each") (h : Rul K H a e t) (q : P (.int e)) : ∃ a' C dx fs v, V.ref a = .ref a' ∧ H a' = some (.ins C dx fs) ∧ Cls K C ∧ NoAttr K C "each" ∧ fs.lookup ("each" : Str) = some v ∧ P v := by
  obtain ⟨dx, fs, h1, h2, h3⟩ := h
  exact ⟨a, _, dx, fs, _, rfl, h1, c1, c2, h2, q⟩
theorem r_total {K : PySem.W.Frag} {H : Hp} {a : Addr} {e t : Int} {P : V → Prop} (c1 : Cls K (cRul K)) (c2 : NoAttr K (cRul K) "total") (h : Rul K H a e t) (q : P (.int t)) : ∃ a' C dx fs v, V.ref a = .ref a' ∧ H a' = some (.ins C dx fs) ∧ Cls K C ∧ NoAttr K C "total" ∧ fs.lookup ("total" : Str) = some v ∧ P v := by
  obtain ⟨dx, fs, h1, h2, h3⟩ := h
  exact ⟨a, _, dx, fs, _, rfl, h1, c1, c2, h3, q⟩
theorem fs2_ok (e t : V) : (fs2 e t).lookup ("each" : Str) = some e ∧ (fs2 e t).lookup ("total" : Str) = some t := by
  unfold fs2
  refine ⟨?_, ?_⟩ <;> (repeat (rw [lookup_putF]; first | rw [if_pos rfl] | rw [if_neg (by decide)]))
def sp_Rule___init__ (K : PySem.W.Frag) : Sp := fun vs H Q _ => ∃ x e t, vs = [x, e, t] ∧ ∃ a dx, x = .ref a ∧ H a = some (.ins (cRul K) dx []) ∧ Q .non (upd H a (.ins (cRul K) dx (fs2 e t)))
theorem e_mkR {K : PySem.W.Frag} {H1 : Hp} {P : Addr → Hp → Prop} {e t : Int} (q : ∀ a H', H1 a = none → Same H1 H' → Rul K H' a e t → P a H') :
    ∀ x dx, H1 x = none → H1 dx = none → dx ≠ x → sp_Rule___init__ K (.ref x :: ([.int e, .int t] ++ [])) (upd (upd H1 dx (.own x)) x (.ins (cRul K) dx [])) (fun u H2 => u = .non ∧ P x H2) E0 := by
  intro x dx hx hdx ne
  refine ⟨_, _, _, rfl, x, dx, rfl, upd_same, rfl, ?_⟩
  rw [upd_upd]
  exact q x _ hx (Same.mut (same_new hdx) hx) ⟨dx, _, upd_same, fs2_ok _ _⟩
def sp_Rule___eq__ (K : PySem.W.Frag) : Sp := sp2 fun x y H Q => ∃ (a : Addr) (e t : Int), x = .ref a ∧ Rul K H a e t ∧
  ((∃ (b : Addr) (e2 t2 : Int), y = .ref b ∧ Rul K H b e2 t2 ∧ Q (.bl (decide (e = e2) && decide (t = t2))) H) ∨ (∃ (b : Addr) (ys : List V), y = .ref b ∧ H b = some (.tup ys) ∧ Q (.bl false) H))
theorem e_eqRR {K : PySem.W.Frag} {H : Hp} {Q : VK} {E : XK} {a b : Addr} {e t e2 t2 : Int} (h1 : Rul K H a e t) (h2 : Rul K H b e2 t2) (q : Q (.bl (decide (e = e2) && decide (t = t2))) H) : rEqO K (He.ga K "Rule") (sp_Rule___eq__ K) E (.ref a) (.ref b) H Q := by
  obtain ⟨dx, fs, k1, _⟩ := id h1
  obtain ⟨dy, gs, k2, _⟩ := id h2
  exact ⟨a, b, dx, fs, rfl, rfl, k1, .inl ⟨dy, gs, k2⟩, _, _, rfl, a, e, t, rfl, h1, .inl ⟨b, e2, t2, rfl, h2, _, rfl, q⟩⟩
theorem e_eqRT {K : PySem.W.Frag} {H : Hp} {Q : VK} {E : XK} {a b : Addr} {e t : Int} {ys : List V} (ct : ClsT K "Rule") (h1 : Rul K H a e t) (h2 : H b = some (.tup ys)) (q : Q (.bl false) H) : rEqO K (He.ga K "Rule") (sp_Rule___eq__ K) E (.ref a) (.ref b) H Q := by
  obtain ⟨dx, fs, k1, _⟩ := id h1
  exact ⟨a, b, dx, fs, rfl, rfl, k1, .inr ⟨ct.nf, ys, SqT.of h2⟩, _, _, rfl, a, e, t, rfl, h1, .inr ⟨b, ys, rfl, h2, _, rfl, q⟩⟩
/-! promises -/
def sp_Store_attic_drop (K : PySem.W.Frag) : Sp := sp2 fun x y H Q => ∃ (a : Addr) (F D : List Addr) (S : S0) (i : Nat), x = .ref a ∧ y = .int i ∧ Al D H ∧ Sto K (hid D H) F a S ∧ S.at_.length ≤ 1000 ∧ i < S.at_.length ∧
  ∀ H', Fr F H H' → Sto K (hid D H') F a { S with at_ := S.at_.eraseIdx i, n := S.n + 1 } → Q .non H'
def sp_indexes_of (K : PySem.W.Frag) : Sp := sp2 fun x y H Q => ∃ (p : Addr) (qs : List Addr) (l : List Rw) (nm : Str), x = .ref p ∧ y = .str nm ∧ SqL K H p (qs.map V.ref) ∧ Ats K H qs l ∧ l.length ≤ 1000 ∧
  ∀ (r : Addr) (H' : Hp), H r = none → Same H H' → H' r = some (.lst (((posP (isN nm) 0 l).map fun i : Nat => (i : Int)).map V.int)) → Q (.ref r) H'
def sp_bytes_of (K : PySem.W.Frag) : Sp := sp1 fun x H Q => ∃ (p : Addr) (qs : List Addr) (l : List Rw), x = .ref p ∧ SqL K H p (qs.map V.ref) ∧ Ats K H qs l ∧ l.length ≤ 1000 ∧ ∀ H', Same H H' → Q (.int (totB l : Nat)) H'
def sp_size_of (K : PySem.W.Frag) : Sp := sp1 fun x H Q => ∃ (a : Addr) (F : List Addr) (S : S0), x = .ref a ∧ Sto K H F a S ∧ S.at_.length ≤ 1000 ∧ ∀ H', Same H H' → Q (.int (totB S.at_ : Nat)) H'
def KpA (K : PySem.W.Frag) (H : Hp) (q : Addr) (r : Rw) : Prop := ∃ v l, H q = some (.tup [.ref v, .ref l]) ∧ Vec K H v r.2.1 ∧ H l = some (.lst (r.2.2.map V.int))
def kpD (r : Rw) : PyData := .tuple [.tuple (Dv r.2.1), .list (Di r.2.2)]
def sp_kept (K : PySem.W.Frag) : Sp := sp2 fun x y H Q => ∃ (a : Addr) (F : List Addr) (S : S0) (nm : Str), x = .ref a ∧ y = .str nm ∧ Sto K H F a S ∧ S.at_.length ≤ 1000 ∧
  ∀ (r : Addr) (ps : List Addr) (H' : Hp), H r = none → Same H H' → H' r = some (.lst (ps.map V.ref)) → Paired (KpA K H') ps (S.at_.filter (isN nm)) → Q (.ref r) H'
def sp_tidy (K : PySem.W.Frag) : Sp := sp2 fun x y H Q => ∃ (a ra : Addr) (F D : List Addr) (S : S0) (e t : Nat), x = .ref a ∧ y = .ref ra ∧ Al D H ∧ Sto K (hid D H) F a S ∧ Rul K (hid F H) ra e t ∧ S.at_.length ≤ 60 ∧ (∀ r ∈ S.at_, r.1 ∈ S6) ∧
  ∀ (g : Addr) (gs : List Addr) (H' : Hp) (n : Int), H g = none → Fr F H H' → Sto K (hid D H') F a { S with at_ := tidL e t S.at_, n := n } → H' g = some (.lst (gs.map V.ref)) → Ats K (hid (g :: (D ++ F)) H') gs (tidG e t S.at_) → g ∉ F → Q (.ref g) H'
def putA (l : List Rw) (r : Rw) : List Rw := if isinR l r = true then l else l ++ [r]
def sp_keep (K : PySem.W.Frag) : Sp := fun vs H Q _ => ∃ x y z u v, vs = [x, y, z, u, v] ∧ ∃ (a ra w c : Addr) (F D : List Addr) (S : S0) (e t : Nat) (nm : Str) (vc : Vc) (bs : List Int), x = .ref a ∧ y = .ref ra ∧ z = .str nm ∧ u = .ref w ∧ v = .ref c ∧ Al D H ∧ Sto K (hid D H) F a S ∧ Rul K (hid F H) ra e t ∧ Vec K H w vc ∧ H c = some (.lst (bs.map V.int)) ∧ c ∉ D ∧ S.at_.length ≤ 50 ∧ (∀ r ∈ S.at_, r.1 ∈ S6) ∧ nm ∈ S6 ∧
  ∀ (g : Addr) (gs : List Addr) (H' : Hp) (n : Int), H g = none → Fr F H H' → Sto K (hid D H') F a { S with at_ := tidL e t (putA S.at_ (nm, (vc, bs))), n := n } → H' g = some (.lst (gs.map V.ref)) → Ats K (hid (g :: (D ++ F)) H') gs (tidG e t (putA S.at_ (nm, (vc, bs)))) → g ∉ F → Q (.ref g) H'
def sp_let_go (K : PySem.W.Frag) : Sp := sp3 fun x y z H Q => ∃ (a w : Addr) (F D : List Addr) (S : S0) (nm : Str) (vc : Vc), x = .ref a ∧ y = .str nm ∧ z = .ref w ∧ Al D H ∧ Sto K (hid D H) F a S ∧ Vec K H w vc ∧ S.at_.length ≤ 60 ∧
  ∀ (H' : Hp) (n : Int), Fr F H H' → Sto K (hid D H') F a { S with at_ := S.at_.filter (fun r => !eqNV nm vc r), n := n } → Q (.int ((S.at_.filter (eqNV nm vc)).length : Nat)) H'
def sp_law_tidied (K : PySem.W.Frag) : Sp := sp3 fun x y z H Q => ∃ (lo : Addr) (qs U : List Addr) (l : List Rw) (e t : Nat), x = .ref lo ∧ y = .int e ∧ z = .int t ∧ H lo = some (.lst (qs.map V.ref)) ∧ lo ∈ U ∧ Ats K (hid U H) qs l ∧ l.length ≤ 60 ∧ (∀ r ∈ l, r.1 ∈ S6) ∧
  ∀ (g : Addr) (gs qs' : List Addr) (H' : Hp), H g = none → Kp lo H H' → H' lo = some (.lst (qs'.map V.ref)) → Ats K (hid U H') qs' (tidL e t l) → H' g = some (.lst (gs.map V.ref)) → Ats K (hid U H') gs (tidG e t l) → Q (.ref g) H'
theorem paired_erase {α β : Type} {F : α → β → Prop} : ∀ {l : List α} {m : List β} (i : Nat), Paired F l m → Paired F (l.eraseIdx i) (m.eraseIdx i)
  | _, _, _, .nil => .nil
  | _, _, 0, .cons _ t => t
  | _, _, i + 1, .cons a t => .cons a (paired_erase i t)
theorem erase_map {α β : Type} (f : α → β) : ∀ (l : List α) (i : Nat), (l.map f).eraseIdx i = (l.eraseIdx i).map f
  | [], _ => rfl
  | a :: l, 0 => rfl
  | a :: l, i + 1 => by
    show f a :: (l.map f).eraseIdx i = _
    rw [erase_map f l i]; rfl
theorem seq_nat {i n : Nat} (h : i < n) : PySem.seqIndex? (i : Int) n = some i := by
  rw [PySem.seqIndex_of (Int.natCast_nonneg i) (by omega), Int.toNat_natCast]
theorem StoX.drop_attic {K : PySem.W.Frag} {H : Hp} {a dx fd td ad ld nd : Addr} {S : S0} {fs : List (Str × V)} {fw tw : List (Str × Addr)} {aq : List Addr} (x : StoX K H a S dx fd td ad ld nd fs fw tw aq) (i : Nat) :
    StoX K (upd H ad (.lst ((aq.map V.ref).eraseIdx i))) a { S with at_ := S.at_.eraseIdx i } dx fd td ad ld nd fs fw tw (aq.eraseIdx i) := by
  have hm : ad ∈ foot a fd td ad tw := by simp [foot]
  have ft := foot_ne x.nd
  refine ⟨by rw [upd_ne (Ne.symm ft.aa)]; exact x.ins, x.len, x.l1, x.l2, x.l3, x.l4, x.l5, x.l6, x.l7, x.l0, by rw [upd_ne (Ne.symm ft.af)]; exact x.f1, by rw [upd_ne (Ne.symm ft.at_)]; exact x.t1, by rw [upd_same, erase_map], by rw [hid_upd_in hm]; exact x.f2, tps_upd x.t2 ft.ld, ?_, by rw [hid_upd_in hm]; exact x.g1, by rw [hid_upd_in hm]; exact x.g2, x.nd, x.fn, x.tn⟩
  rw [hid_upd_in hm]
  exact paired_erase i x.a2
theorem prd_ints {us : List V} {ns : List Nat} (h : Paired (fun (v : V) (b : Nat) => v = .int (b : Nat)) us ns) : us = (ns.map fun i : Nat => (i : Int)).map V.int := by
  induction h with
  | nil => rfl
  | cons a b ih => rw [a, ih]; rfl
theorem rel_ints {us : List V} {α : Type} {l : List α} (f : α → Int) (n : us.length = l.length) (h : ∀ (i : Nat) (v : V), us[i]? = some v → ∃ r, l[i]? = some r ∧ v = V.int (f r)) : us = (l.map f).map V.int := by
  refine List.ext_getElem? fun i => ?_
  cases e : us[i]? with
  | none =>
    rw [List.getElem?_eq_none_iff] at e
    rw [List.map_map, List.getElem?_map, List.getElem?_eq_none (by omega)]; rfl
  | some v =>
    obtain ⟨r, h1, rfl⟩ := h i v e
    rw [List.map_map, List.getElem?_map, h1]; rfl
/-! the state while an attic is tidied -/
structure Tv (K : PySem.W.Frag) (H0 H : Hp) (F D : List Addr) (a p g : Addr) (S : S0) (gone l : List Rw) : Prop where
  fr : Fr F H0 H
  st : ∃ n : Int, Sto K (hid (p :: g :: D) H) F a { S with at_ := l, n := n }
  al : Al D H
  np : p ∉ F
  ng : g ∉ F
  pg : p ≠ g
  hp : H0 p = none
  hg : H0 g = none
  q : ∃ qs : List Addr, H p = some (.lst (qs.map V.ref)) ∧ Ats K (hid (p :: g :: (D ++ F)) H) qs l
  r : ∃ gs : List Addr, H g = some (.lst (gs.map V.ref)) ∧ Ats K (hid (p :: g :: (D ++ F)) H) gs gone
section
variable {K : PySem.W.Frag} {H0 H H1 : Hp} {F D : List Addr} {a p g : Addr} {S : S0} {gone l : List Rw}
theorem Tv.lists (v : Tv K H0 H F D a p g S gone l) : Al (p :: g :: D) H := fun b m => by
  obtain ⟨qs, e1, _⟩ := v.q
  obtain ⟨gs, e2, _⟩ := v.r
  rcases List.mem_cons.mp m with e | m
  · rw [e]; exact ⟨_, e1⟩
  rcases List.mem_cons.mp m with e | m
  · rw [e]; exact ⟨_, e2⟩
  · exact v.al b m
theorem Tv.hs (f : Fr F H H1) : Same (hid (p :: g :: (D ++ F)) H) (hid (p :: g :: (D ++ F)) H1) := hid_fr (f.mono fun _ m => by simp [m])
theorem Tv.same (v : Tv K H0 H F D a p g S gone l) (s : Same H H1) : Tv K H0 H1 F D a p g S gone l := by
  obtain ⟨n, st⟩ := v.st
  obtain ⟨qs, e1, q⟩ := v.q
  obtain ⟨gs, e2, r⟩ := v.r
  have h := Tv.hs (p := p) (g := g) (F := F) (D := D) (Fr.of s)
  exact ⟨v.fr.same s, ⟨n, st.same (hid_same s)⟩, v.al.same s, v.np, v.ng, v.pg, v.hp, v.hg, ⟨qs, s _ _ e1, ats_same q h⟩, ⟨gs, s _ _ e2, ats_same r h⟩⟩
/-- one row goes -/
theorem Tv.step (v : Tv K H0 H F D a p g S gone l) {i : Nat} {x : Rw} {n' : Int} (hi : l[i]? = some x) (f : Fr F H H1) (s : Sto K (hid (p :: g :: D) H1) F a { S with at_ := l.eraseIdx i, n := n' }) :
    ∃ (y : Addr) (xs ys : List V), H1 p = some (.lst xs) ∧ xs[i]? = some (.ref y) ∧ xs.length = l.length ∧ H1 g = some (.lst ys) ∧ ys.length = gone.length ∧
      Tv K H0 (upd (upd H1 p (.lst (xs.eraseIdx i))) g (.lst (ys ++ [.ref y]))) F D a p g S (gone ++ [x]) (l.eraseIdx i) := by
  obtain ⟨n, st⟩ := v.st
  obtain ⟨qs, e1, q⟩ := v.q
  obtain ⟨gs, e2, r⟩ := v.r
  have lq : qs.length = l.length := paired_len q
  have lg : gs.length = gone.length := paired_len r
  have hil := (List.getElem?_eq_some_iff.mp hi).1
  have hq : qs[i]? = some qs[i] := List.getElem?_eq_getElem (by omega)
  have ap : AttA K (hid (p :: g :: (D ++ F)) H) qs[i] x := by
    obtain ⟨x', h1, h2⟩ := paired_get q i _ hq
    rw [hi] at h1
    cases h1
    exact h2
  have h := Tv.hs (p := p) (g := g) (F := F) (D := D) f
  have mp : p ∈ p :: g :: (D ++ F) := by simp
  have mg : g ∈ p :: g :: (D ++ F) := by simp
  have mp2 : p ∈ p :: g :: D := by simp
  have mg2 : g ∈ p :: g :: D := by simp
  refine ⟨qs[i], _, _, f _ _ v.np e1, by rw [List.getElem?_map, hq]; rfl, by rw [List.length_map, lq], f _ _ v.ng e2, by rw [List.length_map, lg], ?_⟩
  have fr0 : Fr F H0 H1 := fun b o n e => f b o n (v.fr b o n e)
  refine ⟨(fr0.mut v.hp).mut v.hg, ⟨n', ?_⟩, ?_, v.np, v.ng, v.pg, v.hp, v.hg, ⟨qs.eraseIdx i, ?_, ?_⟩, ⟨gs ++ [qs[i]], ?_, ?_⟩⟩
  · rw [hid_upd_in mg2, hid_upd_in mp2]; exact s
  · intro b m
    obtain ⟨xs, e⟩ := v.al b m
    by_cases z1 : b = g
    · rw [z1, upd_same]; exact ⟨_, rfl⟩
    rw [upd_ne z1]
    by_cases z2 : b = p
    · rw [z2, upd_same]; exact ⟨_, rfl⟩
    rw [upd_ne z2]
    exact ⟨xs, f _ _ (fun m2 => by
      have hn := st.notin (d := b) (by simp [m])
      exact hn m2) e⟩
  · rw [upd_ne v.pg, upd_same, erase_map]
  · rw [hid_upd_in mg, hid_upd_in mp]
    exact ats_same (paired_erase i q) h
  · rw [upd_same, List.map_append]; rfl
  · rw [hid_upd_in mg, hid_upd_in mp]
    exact Paired.snoc (ats_same r h) (ap.same h)
end
theorem max0 (a e : Nat) : (if ((a : Int) - (e : Int)) > 0 then ((a : Int) - (e : Int)) else 0) = ((a - e : Nat) : Int) := by
  by_cases h : e ≤ a
  · by_cases h2 : ((a : Int) - (e : Int)) > 0
    · rw [if_pos h2]; omega
    · rw [if_neg h2]; omega
  · rw [if_neg (by omega)]; omega
theorem cut_toV (xs : List V) (c : Nat) : cutV xs none (some (c : Int)) = xs.take c := by
  unfold cutV
  rw [HT.sIx_nat, show HT.sIx xs.length 0 none = 0 from rfl, List.drop_zero, Nat.sub_zero]
  by_cases h : c ≤ xs.length
  · rw [Nat.min_eq_left h]
  · rw [Nat.min_eq_right (by omega), List.take_of_length_le (Nat.le_refl _), List.take_of_length_le (by omega)]
theorem rel_vals {us : List V} {α : Type} {l : List α} (f : α → V) (n : us.length = l.length) (h : ∀ (i : Nat) (v : V), us[i]? = some v → ∃ r, l[i]? = some r ∧ v = f r) : us = l.map f := by
  refine List.ext_getElem? fun i => ?_
  cases e : us[i]? with
  | none =>
    rw [List.getElem?_eq_none_iff] at e
    rw [List.getElem?_map, List.getElem?_eq_none (by omega)]; rfl
  | some v =>
    obtain ⟨r, h1, rfl⟩ := h i v e
    rw [List.getElem?_map, h1]; rfl
theorem rm_next {α : Type} {p : α → Bool} {l : List α} {j ij : Nat} (h : (posP p 0 l)[j]? = some ij) : ∃ r, j ≤ ij ∧ (rmP p j l)[ij - j]? = some r ∧ p r = true ∧ rmP p (j + 1) l = (rmP p j l).eraseIdx (ij - j) ∧
    (l.filter p)[j]? = some r ∧ (l.filter p).take (j + 1) = (l.filter p).take j ++ [r] ∧ ∀ m r', m < ij - j → (rmP p j l)[m]? = some r' → p r' = false := by
  have g := pos_ge p l 0 j ij h
  have hj := (List.getElem?_eq_some_iff.mp h).1
  have hp := pos_rmP p l j
  rw [List.drop_eq_getElem_cons hj, List.map_cons] at hp
  have hij : (posP p 0 l)[j] = ij := (List.getElem?_eq_some_iff.mp h).2
  rw [hij] at hp
  obtain ⟨_, h2, h3, ⟨r, h4, h5, f, h6⟩, h7⟩ := pos_head p _ 0 _ _ hp
  rw [Nat.sub_zero] at h2 h3 h4 h7
  rw [filt_rmP] at h6
  have h8 : (l.filter p)[j]? = some r := by
    have := congrArg (fun x : List α => x[0]?) h6
    simpa [List.getElem?_drop] using this
  exact ⟨r, by omega, h4, h5, h3, h8, by rw [List.take_add_one, h8]; rfl, h7⟩
theorem at_cut_stop {t : Nat} {l : List Rw} (h : ¬ t < totB l) : cutL t l = l ∧ cutG t l = [] := by
  cases l with
  | nil => exact ⟨rfl, rfl⟩
  | cons r l =>
    unfold cutL cutG
    rw [if_neg h, if_neg h]
    exact ⟨rfl, rfl⟩
theorem at_cut_go {t : Nat} {l : List Rw} (h : t < totB l) : ∃ r l', l = r :: l' ∧ cutL t l = cutL t l' ∧ cutG t l = r :: cutG t l' := by
  cases l with
  | nil => exact absurd h (Nat.not_lt_zero _)
  | cons r l =>
    refine ⟨r, l, rfl, ?_, ?_⟩
    · show (if _ then _ else _) = _
      rw [if_pos h]
    · show (if _ then _ else _) = _
      rw [if_pos h]
def Wt (K : PySem.W.Frag) (H0 : Hp) (F D : List Addr) (a ra p g py : Addr) (S : S0) (e t : Nat) (m : Nat) (σ : L2.St) (H : Hp) : Prop :=
  (∃ v5 v6 v7 v8, σ = [some (.ref a), some (.ref ra), some (.ref p), some (.ref g), some (.ref py), v5, v6, v7, v8, none]) ∧ ∃ gone l : List Rw, m = l.length ∧ l.length ≤ 60 ∧ gone.length + l.length ≤ 100000 ∧ Tv K H0 H F D a p g S gone l ∧ gone ++ cutG t l = tidG e t S.at_ ∧ cutL t l = tidL e t S.at_
/-! data that are looked for -/
theorem s6_ok : ∀ x ∈ S6, PyData.strOk x = true := by decide +kernel
theorem row_can (r : Rw) (h : r.1 ∈ S6) : (rowD r).canLay0 = true := by
  simp [rowD, PyData.canLay0, PyData.canLayAll0, dv_can, Vf.canAll_ints, s6_ok r.1 h]
theorem row_shaped (r : Rw) (h6 : r.1 ∈ S6) : SeqAt.shaped (rowD r) = true := by
  have h := row_depth r
  show ((rowD r).canLay0 && decide ((rowD r).depth ≤ 64)) = true
  rw [row_can r h6, decide_eq_true (by omega)]; rfl
theorem rows_shaped (l : List Rw) (h6 : ∀ r ∈ l, r.1 ∈ S6) : SeqAt.shaped (.list (l.map rowD)) = true := by
  have h1 : ∀ l : List Rw, (∀ r ∈ l, r.1 ∈ S6) → PyData.canLayAll0 (l.map rowD) = true := fun l => by
    induction l with
    | nil => intro _; simp [PyData.canLayAll0]
    | cons r l ih =>
      intro h
      show ((rowD r).canLay0 && PyData.canLayAll0 (l.map rowD)) = true
      rw [row_can r (h r (List.mem_cons_self ..)), ih fun x m => h x (List.mem_cons_of_mem _ m)]; rfl
  have h2 := depth_map rowD row_depth l
  show (PyData.canLayAll0 (l.map rowD) && decide (PyData.depthAll (l.map rowD) + 1 ≤ 64)) = true
  rw [h1 l h6, decide_eq_true (by omega)]; rfl
theorem row_self (r : Rw) : PyData.eqv (rowD r) (rowD r) = true := eqv_self _ (row_plain r)
theorem row_ne {r x : Rw} (h : r.1 ≠ x.1) : PyData.eqv (rowD r) (rowD x) = false := by
  show ((PyData.eqv (.str r.1) (.str x.1)) && _) = false
  rw [show PyData.eqv (.str r.1) (.str x.1) = (r.1 == x.1) from rfl, beq_eq_false_iff_ne.mpr h]; rfl
/-! the law's own tidying -/
structure Lw (K : PySem.W.Frag) (H0 H : Hp) (U : List Addr) (lo g : Addr) (gone l : List Rw) : Prop where
  kp : Kp lo H0 H
  m : lo ∈ U
  ng : lo ≠ g
  hg : H0 g = none
  q : ∃ qs : List Addr, H lo = some (.lst (qs.map V.ref)) ∧ Ats K (hid (g :: U) H) qs l
  r : ∃ gs : List Addr, H g = some (.lst (gs.map V.ref)) ∧ Ats K (hid (g :: U) H) gs gone
section
variable {K : PySem.W.Frag} {H0 H H1 : Hp} {U : List Addr} {lo g : Addr} {gone l : List Rw}
theorem Lw.same (v : Lw K H0 H U lo g gone l) (s : Same H H1) : Lw K H0 H1 U lo g gone l := by
  obtain ⟨qs, e1, q⟩ := v.q
  obtain ⟨gs, e2, r⟩ := v.r
  exact ⟨v.kp.trans (Kp.of s), v.m, v.ng, v.hg, ⟨qs, s _ _ e1, ats_same q (hid_same s)⟩, ⟨gs, s _ _ e2, ats_same r (hid_same s)⟩⟩
theorem Lw.more (v : Lw K H0 H U lo g gone l) {y : Addr} {x : Rw} (h : AttA K (hid (g :: U) H) y x) : ∃ ys : List V, H g = some (.lst ys) ∧ ys.length = gone.length ∧ Lw K H0 (upd H g (.lst (ys ++ [.ref y]))) U lo g (gone ++ [x]) l := by
  obtain ⟨qs, e1, q⟩ := v.q
  obtain ⟨gs, e2, r⟩ := v.r
  have lg : gs.length = gone.length := paired_len r
  refine ⟨_, e2, by rw [List.length_map, lg], v.kp.mut v.hg, v.m, v.ng, v.hg, ⟨qs, by rw [upd_ne v.ng]; exact e1, ?_⟩, ⟨gs ++ [y], by rw [upd_same, List.map_append]; rfl, ?_⟩⟩
  · rw [hid_upd_in (by simp)]; exact q
  · rw [hid_upd_in (by simp)]; exact Paired.snoc r h
theorem Lw.less (v : Lw K H0 H U lo g gone l) (i : Nat) : ∃ xs : List V, H lo = some (.lst xs) ∧ xs.length = l.length ∧ DpAll K H xs (l.map rowD) ∧ (∀ x, l[i]? = some x → ∃ y, xs[i]? = some (.ref y) ∧ AttA K (hid (g :: U) H) y x) ∧ Lw K H0 (upd H lo (.lst (xs.eraseIdx i))) U lo g gone (l.eraseIdx i) := by
  obtain ⟨qs, e1, q⟩ := v.q
  obtain ⟨gs, e2, r⟩ := v.r
  have lq : qs.length = l.length := paired_len q
  refine ⟨_, e1, by rw [List.length_map, lq], dp_rows (ats_same q hid_sub), fun x hx => ?_, v.kp.put, v.m, v.ng, v.hg, ⟨qs.eraseIdx i, by rw [upd_same, erase_map], ?_⟩, ⟨gs, by rw [upd_ne (Ne.symm v.ng)]; exact e2, ?_⟩⟩
  · have hil := (List.getElem?_eq_some_iff.mp hx).1
    have hq : qs[i]? = some qs[i] := List.getElem?_eq_getElem (by omega)
    obtain ⟨x', h1, h2⟩ := paired_get q i _ hq
    rw [hx] at h1
    cases h1
    exact ⟨qs[i], by rw [List.getElem?_map, hq]; rfl, h2⟩
  · rw [hid_upd_in (List.mem_cons_of_mem _ v.m)]; exact paired_erase i q
  · rw [hid_upd_in (List.mem_cons_of_mem _ v.m)]; exact r
end
def Wl (K : PySem.W.Frag) (H0 : Hp) (U : List Addr) (lo g : Addr) (l0 : List Rw) (e t : Nat) (m : Nat) (σ : L2.St) (H : Hp) : Prop :=
  (∃ v4 v5 v6, σ = [some (.ref lo), some (.int e), some (.int t), some (.ref g), v4, v5, v6]) ∧ ∃ gone l : List Rw, m = l.length ∧ l.length ≤ 60 ∧ gone.length + l.length ≤ 100000 ∧ Lw K H0 H U lo g gone l ∧ gone ++ cutG t l = tidG e t l0 ∧ cutL t l = tidL e t l0
/-! the law's state -/
structure Av (K : PySem.W.Frag) (st sc : Addr) (ns : List Int) (a lo : Addr) (Hb H : Hp) (F : List Addr) (ls ll : List Rw) : Prop where
  k : Kp st Hb H
  d : Dr K st sc ns H
  s : ∃ n : Int, Sto K (hid [st, lo] H) F a ⟨[], [], ls, n⟩
  q : ∃ qs : List Addr, H lo = some (.lst (qs.map V.ref)) ∧ Ats K (hid (st :: lo :: F) H) qs ll
  f : ∀ b ∈ F, Hb b = none
  b : Hb lo = none
  n : lo ≠ st
section
variable {K : PySem.W.Frag} {st sc : Addr} {ns : List Int} {a lo : Addr} {Hb H H' : Hp} {F : List Addr} {ls ll : List Rw}
theorem Av.lists (v : Av K st sc ns a lo Hb H F ls ll) : Al [st, lo] H := fun b m => by
  obtain ⟨qs, e, _⟩ := v.q
  obtain ⟨x, y, _, _, e2⟩ := v.d.s
  rcases List.mem_cons.mp m with z | m
  · rw [z]; exact ⟨[.int x, .int y], e2⟩
  · rw [List.mem_singleton.mp m]; exact ⟨_, e⟩
theorem Av.kp (v : Av K st sc ns a lo Hb H F ls ll) (k : Kp st H H') (d : Dr K st sc ns H') : Av K st sc ns a lo Hb H' F ls ll := by
  obtain ⟨n, s⟩ := v.s
  obtain ⟨qs, e, q⟩ := v.q
  have f : ∀ D, Same (hid (st :: D) H) (hid (st :: D) H') := fun D => hid_fr fun x o n e => k x o (fun z => n (by rw [z]; simp)) e
  exact ⟨v.k.trans k, d, ⟨n, s.same (f _)⟩, ⟨qs, k _ _ v.n e, ats_same q (f _)⟩, v.f, v.b, v.n⟩
theorem Av.same (v : Av K st sc ns a lo Hb H F ls ll) (k : Same H H') : Av K st sc ns a lo Hb H' F ls ll := v.kp (Kp.of k) (v.d.same k)
theorem Av.fr (d0 : Dr K st sc ns Hb) (v : Av K st sc ns a lo Hb H F ls ll) {ls' : List Rw} {n : Int} (f : Fr F H H') (s : Sto K (hid [st, lo] H') F a ⟨[], [], ls', n⟩) : Av K st sc ns a lo Hb H' F ls' ll := by
  obtain ⟨n0, s0⟩ := v.s
  obtain ⟨qs, e, q⟩ := v.q
  obtain ⟨k1, d1⟩ := drFr d0 v.k v.d f v.f
  exact ⟨k1, d1, ⟨n, s⟩, ⟨qs, f _ _ (s0.notin (by simp)) e, ats_same q (hid_fr (f.mono fun _ m => by simp [m]))⟩, v.f, v.b, v.n⟩
theorem Av.lot (d0 : Dr K st sc ns Hb) (v : Av K st sc ns a lo Hb H F ls ll) {ll' : List Rw} {qs : List Addr} (k : Kp lo H H') (e : H' lo = some (.lst (qs.map V.ref))) (q : Ats K (hid (st :: lo :: F) H') qs ll') : Av K st sc ns a lo Hb H' F ls ll' := by
  obtain ⟨n0, s0⟩ := v.s
  have f : Fr [lo] H H' := fun x o n e => k x o (fun z => n (by rw [z]; simp)) e
  obtain ⟨k1, d1⟩ := drFr d0 v.k v.d f (fun x m => by rw [List.mem_singleton.mp m]; exact v.b)
  exact ⟨k1, d1, ⟨n0, s0.same (hid_fr (f.mono fun _ m => by rw [List.mem_singleton.mp m]; simp))⟩, ⟨qs, e, q⟩, v.f, v.b, v.n⟩
theorem Av.add (d0 : Dr K st sc ns Hb) (v : Av K st sc ns a lo Hb H F ls ll) {t : Addr} {r : Rw} (h : AttA K (hid (st :: lo :: F) H) t r) : ∃ xs : List V, H lo = some (.lst xs) ∧ xs.length = ll.length ∧ Av K st sc ns a lo Hb (upd H lo (.lst (xs ++ [.ref t]))) F ls (ll ++ [r]) := by
  obtain ⟨qs, e, q⟩ := v.q
  have lq : qs.length = ll.length := paired_len q
  refine ⟨_, e, by rw [List.length_map, lq], v.lot d0 (qs := qs ++ [t]) (Kp.put (Kp.refl _ _)) (by rw [upd_same, List.map_append]; rfl) ?_⟩
  rw [hid_upd_in (by simp)]
  exact Paired.snoc q h
theorem Av.turn (v : Av K st sc ns a lo Hb H F ls ll) {lo' : Addr} {qs : List Addr} {ll' : List Rw} (s : Same H H') (h : H lo' = none) (e : H' lo' = some (.lst (qs.map V.ref))) (q : Ats K (hid (st :: lo :: F) (hid [lo'] H')) qs ll') : Av K st sc ns a lo' Hb H' F ls ll' := by
  have v' := v.same s
  obtain ⟨n0, s0⟩ := v.s
  have nst : lo' ≠ st := v.d.ne h
  refine ⟨v'.k, v'.d, ⟨n0, s0.same fun y o hy => ?_⟩, ⟨qs, e, ats_same q fun y o hy => ?_⟩, v.f, dr_free v.d v.k h, nst⟩
  · obtain ⟨ny, hy⟩ := hid_some hy
    have n1 : y ≠ lo' := ne_of_none hy h
    have n2 : y ≠ st := fun z => ny (by rw [z]; simp)
    rw [hid_at (by simp [n1, n2])]
    exact s _ _ hy
  · obtain ⟨ny, hy⟩ := hid_some hy
    obtain ⟨nl, hy⟩ := hid_some hy
    have n1 : y ≠ lo' := fun z => nl (by rw [z]; simp)
    have n2 : y ≠ st := fun z => ny (by rw [z]; simp)
    have n3 : y ∉ F := fun m => ny (by simp [m])
    rw [hid_at (by simp [n1, n2, n3])]
    exact hy
end
theorem rowsD_plain (l : List Rw) : (PyData.list (l.map rowD)).plain = true := plain_map rowD row_plain l
theorem rowsD_depth (l : List Rw) : (PyData.list (l.map rowD)).depth ≤ 60 := by
  have := depth_map rowD row_depth l
  show PyData.depthAll (l.map rowD) + 1 ≤ 60
  omega
/-- two rows of rows that are alike -/
theorem e_neRows {K : PySem.W.Frag} {H : Hp} {Q : VK} {p q : Addr} {ps qs : List Addr} {l : List Rw} (h1 : H p = some (.lst (ps.map V.ref))) (h2 : Ats K H ps l) (h3 : H q = some (.lst (qs.map V.ref))) (h4 : Ats K H qs l) (k : Q (.bl false) H) : rNeP K (.ref p) (.ref q) H Q :=
  e_nePV (.lst (SqL.of h1) (dp_rows h2)) (.lst (SqL.of h3) (dp_rows h4)) (rowsD_plain l) (rowsD_plain l) (rowsD_depth l) (eqv_self _ (rowsD_plain l)) k
theorem kp_plain (r : Rw) : (kpD r).plain = true := by simp [kpD, PyData.plain, PyData.plainAll, plain_ints, dv_plain]
theorem kp_depth (r : Rw) : (kpD r).depth ≤ 4 := by
  show PyData.depthAll _ + 1 ≤ 4
  have := dv_depth r.2.1
  simp only [PyData.depthAll, PyData.depth, Vf.depthAll_ints]
  omega
theorem dp_kps {K : PySem.W.Frag} {H : Hp} : ∀ {qs : List Addr} {l : List Rw}, Paired (KpA K H) qs l → DpAll K H (qs.map V.ref) (l.map kpD)
  | _, _, .nil => .nil
  | _, _, .cons a b => by
    obtain ⟨v, l, h1, h2, h3⟩ := a
    exact .cons (.tup (SqT.of h1) (.cons (dp_vec h2) (.cons (.lst (SqL.of h3) (dpAll_ints _)) .nil))) (dp_kps b)
theorem e_neKps {K : PySem.W.Frag} {H : Hp} {Q : VK} {p q : Addr} {ps qs : List Addr} {l : List Rw} (h1 : H p = some (.lst (ps.map V.ref))) (h2 : Paired (KpA K H) ps l) (h3 : H q = some (.lst (qs.map V.ref))) (h4 : Paired (KpA K H) qs l) (k : Q (.bl false) H) : rNeP K (.ref p) (.ref q) H Q := by
  have pl : (PyData.list (l.map kpD)).plain = true := plain_map kpD kp_plain l
  refine e_nePV (.lst (SqL.of h1) (dp_kps h2)) (.lst (SqL.of h3) (dp_kps h4)) pl pl ?_ (eqv_self _ pl) k
  have := depth_map kpD kp_depth l
  show PyData.depthAll (l.map kpD) + 1 ≤ 60
  omega
theorem KpA.same {K : PySem.W.Frag} {H H' : Hp} {q : Addr} {r : Rw} (h : KpA K H q r) (s : Same H H') : KpA K H' q r := let ⟨v, l, h1, h2, h3⟩ := h; ⟨v, l, s _ _ h1, h2.same s, s _ _ h3⟩
theorem eqv_nv (nm : Str) (v : Vc) (r : Rw) : PyData.eqv (.tuple [.str r.1, .tuple (Dv r.2.1)]) (.tuple [.str nm, .tuple (Dv v)]) = eqNV nm v r := by
  show ((r.1 == nm) && (PyData.eqv (.tuple (Dv r.2.1)) (.tuple (Dv v)) && true)) = _
  unfold eqNV
  rw [Bool.and_true]
  by_cases h : r.1 = nm
  · rw [decide_eq_true h, h]; simp
  · rw [decide_eq_false h, beq_eq_false_iff_ne.mpr h]
theorem names_in : ∀ z ∈ names6, z ∈ S6 := by decide +kernel
theorem Rul.hide {K : PySem.W.Frag} {H : Hp} {a : Addr} {e t : Int} {D : List Addr} (h : Rul K H a e t) (n : a ∉ D) : Rul K (hid D H) a e t := let ⟨dx, fs, h1, h2⟩ := h; ⟨dx, fs, by rw [hid_at n]; exact h1, h2⟩
section
variable {K : PySem.W.Frag} {st sc : Addr} {ns : List Int} {a lo : Addr} {Hb H H' : Hp} {F : List Addr} {ls ll : List Rw}
theorem Av.nt (v : Av K st sc ns a lo Hb H F ls ll) : ∀ d ∈ st :: lo :: F, (∃ o, H d = some o) ∧ NT H d := fun d m => by
  obtain ⟨qs, e, _⟩ := v.q
  obtain ⟨x, y, _, _, e2⟩ := v.d.s
  rcases List.mem_cons.mp m with z | m
  · rw [z]; exact ⟨⟨_, e2⟩, nt_lst e2⟩
  rcases List.mem_cons.mp m with z | m
  · rw [z]; exact ⟨⟨_, e⟩, nt_lst e⟩
  · obtain ⟨n, s⟩ := v.s
    exact s.sub.has d m
theorem Av.out (v : Av K st sc ns a lo Hb H F ls ll) {x : Addr} (h : H x = none) : x ∉ st :: lo :: F := fun m => by
  obtain ⟨⟨o, e⟩, _⟩ := v.nt x m
  rw [h] at e; cases e
theorem hk_st (k : Kp st H H') : Same (hid (st :: lo :: F) H) (hid (st :: lo :: F) H') := hid_fr fun x o n e => k x o (fun z => n (by rw [z]; simp)) e
theorem hk_lo (k : Kp lo H H') : Same (hid (st :: lo :: F) H) (hid (st :: lo :: F) H') := hid_fr fun x o n e => k x o (fun z => n (by rw [z]; simp)) e
theorem hk_fr (k : Fr F H H') : Same (hid (st :: lo :: F) H) (hid (st :: lo :: F) H') := hid_fr (k.mono fun _ m => by simp [m])
end
local macro_rules | `(tactic| walk_at "dr") => `(tactic| first
  | assumption
  | exact Dr.same (by assumption) (same_new (by assumption))
  | exact Dr.same (Dr.same (by assumption) (same_new (by assumption))) (same_new (by assumption)))
local macro_rules | `(tactic| walk_at "ar") => `(tactic| first | omega | (simp only [List.length_cons, List.length_nil, List.length_map, List.length_append]; omega) | (simp only [List.length_cons, List.length_nil, List.length_map, List.length_append] at *; omega) | decide | assumption)
local macro_rules | `(tactic| walk_at "sl") => `(tactic| first
  | exact Dr.seq (by assumption)
  | assumption
  | exact SqL.of (by assumption)
  | exact SqL.of upd_same)
local macro_rules | `(tactic| walk_at "slt") => `(tactic| first
  | assumption
  | exact SqT.of (by assumption)
  | exact SqT.of upd_same)
local macro_rules | `(tactic| walk_at "size") => `(tactic| first
  | assumption
  | (refine sz_of ?_; first | decide | omega | (simp only [List.length_cons, List.length_nil, List.length_map, List.length_append] at *; omega)))
local macro_rules | `(tactic| walk_at "seq") => `(tactic| first
  | assumption
  | exact .inl (Dr.seq (by assumption))
  | exact .inl (by assumption)
  | exact .inl (SqL.of (by assumption))
  | exact .inr (by assumption)
  | exact .inr (SqT.of (by assumption)))
local macro_rules | `(tactic| walk_at "cond") => `(tactic| first
  | ((with_reducible show CMul _ _); first | exact .inr ⟨by decide, by decide⟩ | exact .inl ⟨by decide, by decide⟩ | exact .inr ⟨by omega, by omega⟩ | exact .inl ⟨by omega, by omega⟩)
  | ((with_reducible show CDivW _ _); first | exact ⟨by decide, by decide⟩ | exact wide_div (b := 60) (by omega) (by omega) (by decide) (by decide))
  | ((with_reducible show CDiv _ _); first | exact ⟨by decide, by decide⟩ | exact ⟨by omega, by omega⟩)
  | ((with_reducible show CPow _ _); exact ⟨by decide, by decide, by decide⟩)
  | (show (0 : Int) < _; first | decide | omega)
  | (show (0 : Int) ≤ _; first | decide | omega))
local macro_rules | `(tactic| walk_at "st1") => `(tactic| first
  | ((with_reducible show tVar _ _ _ _); refine e_var rfl ?_)
  | ((with_reducible show tC _ _ _ _); refine e_c ?_)
  | ((with_reducible show tOp _ _ _ _ _ _); refine e_op ?_)
  | ((with_reducible show rI0 _ _ _ _ _); refine e_I0 ?_)
  | ((with_reducible show rI _ _ _ _ _ _); refine e_I (by walk_at "cond") ?_)
  | ((with_reducible show rEq (V.int _) (V.int _) _ _); refine e_eqI ?_)
  | ((with_reducible show rNe (V.int _) (V.int _) _ _); refine e_neI ?_)
  | ((with_reducible show rEq (V.str _) (V.str _) _ _); refine e_eqS ?_)
  | ((with_reducible show rNe (V.str _) (V.str _) _ _); refine e_neS ?_)
  | ((with_reducible show rEq (V.bl _) (V.bl _) _ _); refine e_eqB ?_)
  | ((with_reducible show rNe (V.bl _) (V.bl _) _ _); refine e_neB ?_)
  | ((with_reducible show rEq _ _ _ _); refine e_eq rfl ?_)
  | ((with_reducible show rNe _ _ _ _); refine e_ne rfl ?_)
  | ((with_reducible show tTest _ _ _ _); refine e_test ?_)
  | ((with_reducible show tB _ _ _ _); refine e_B ?_)
  | ((with_reducible show ∃ k, V.bl _ = V.bl k ∧ _); refine e_ex ?_)
  | ((with_reducible show ∃ k, V.int _ = V.int k ∧ _); refine e_exI ?_)
  | ((with_reducible show tAnd _ _ _ _ _); refine e_and ?_)
  | ((with_reducible show tOr _ _ _ _ _); refine e_or ?_)
  | ((with_reducible show tNot _ _ _ _); refine e_not ?_)
  | ((with_reducible show tYes _ _ _); refine e_yes ?_))
local macro_rules | `(tactic| walk_at "st2") => `(tactic| first
  | ((with_reducible show tAndV _ _ _ _ _); refine e_andV ?_)
  | ((with_reducible show tOrV _ _ _ _ _); refine e_orV ?_)
  | ((with_reducible show tNotV _ _ _ _); refine e_notV ?_)
  | ((with_reducible show tIf _ _ _ _ _ _); refine e_if ?_)
  | ((with_reducible show tChain _ _ _ _ _ _ _ _); refine e_chain ?_)
  | ((with_reducible show tSeq _ _ _ _ _); refine e_seq ?_)
  | ((with_reducible show tNext _ _ _); refine e_next ?_)
  | ((with_reducible show tBreak _ _ _); refine e_break ?_)
  | ((with_reducible show tCont _ _ _); refine e_cont ?_)
  | ((with_reducible show tDrop _ _ _ _); refine e_drop ?_)
  | ((with_reducible show tRet _ _ _ _); refine e_ret ?_)
  | ((with_reducible show tRetN _ _ _); refine e_retN ?_)
  | ((with_reducible show tIfS _ _ _ _ _ _); refine e_ifS ?_)
  | ((with_reducible show tAsg _ _ _ _ _); refine e_asg ?_)
  | ((with_reducible show gName _ _ _ _ _); refine e_name ?_)
  | ((with_reducible show gSub _ _ _ _ _ _ _); refine e_sub ?_)
  | ((with_reducible show tNil _ _ _); refine e_nil ?_)
  | ((with_reducible show tCons _ _ _ _ _); refine e_cons ?_)
  | ((with_reducible show tCall _ _ _ _ _ _ _); refine e_call ?_)
  | ((with_reducible show tCB _ _ _ _ _); refine e_CB ?_)
  | ((with_reducible show tTup _ _ _ _); refine e_tup ?_)
  | ((with_reducible show tLst _ _ _ _); refine e_lst ?_)
  | ((with_reducible show tSl _ _ _ _ _ _ _); refine e_sl ?_)
  | ((with_reducible show tNoPart _ _ _); refine e_noP ?_)
  | ((with_reducible show tPart _ _ _ _); refine e_part ?_)
  | ((with_reducible show tBM _ _ _ _ _ _ _ _); refine e_bm ?_)
  | ((with_reducible show tFor _ _ _ _ _ _); refine e_for ?_)
  | ((with_reducible show iList _ _ _ _ _); refine e_iList ?_)
  | ((with_reducible show iTup _ _ _ _ _); refine e_iTup ?_)
  | ((with_reducible show iStr _ _ _ _); refine e_iStr ?_)
  | ((with_reducible show iRng1 _ _ _ _); refine e_iRng1 ?_)
  | ((with_reducible show iRng2 _ _ _ _); refine e_iRng2 ?_)
  | ((with_reducible show (∃ i', [V.int _] = [V.int i'] ∧ _) ∨ ∃ k, [V.int _] = [V.bl k] ∧ _); refine Or.inl ⟨_, rfl, ?_⟩)
  | ((with_reducible show ∃ p ys, [V.ref _] = [V.ref p] ∧ (SqL _ _ p ys ∨ SqT _ _ p ys) ∧ _); refine ⟨_, _, rfl, (by walk_at "seq"), ?_⟩)
  | ((with_reducible show tLc _ _ _ _ _ _ _ _); refine e_lc ?_)
  | ((with_reducible show tM0 _ _ _ _ _); refine e_m0 ?_)
  | ((with_reducible show tM1 _ _ _ _ _ _); refine e_m1 ?_)
  | ((with_reducible show ∃ k, V.str _ = V.str k ∧ _); refine e_exS ?_)
  | ((with_reducible show ∃ k, V.ref _ = V.ref k ∧ (∃ xs, SqL _ _ k xs) ∧ _); refine e_exR (by walk_at "sl") ?_)
  | ((with_reducible show ∃ k, V.ref _ = V.ref k ∧ (∃ xs, SqT _ _ k xs) ∧ _); refine e_exRT (by walk_at "slt") ?_)
  | ((with_reducible show ∃ j, [V.int _] = [V.int j] ∧ _ ≤ j ∧ j < _ ∧ _); refine e_rng1 (by omega) (by omega) ?_)
  | ((with_reducible show ∃ i j, [V.int _, V.int _] = [V.int i, V.int j] ∧ _ ∧ _); refine e_rng2 (by omega) ?_)
  | ((with_reducible show ∃ z', [V.str _] = [V.str z'] ∧ z'.length ≤ sizeLine ∧ _); refine ⟨_, rfl, (by walk_at "size"), ?_⟩)
  | ((with_reducible show (∃ a, V.str _ = V.str a) ∧ _); refine ⟨⟨_, rfl⟩, ?_⟩)
  | ((with_reducible show rSlS (V.str _) _ _ _ _); refine e_slS (by walk_at "size") ?_)
  | ((with_reducible show wipe _ _ = wipe _ _ ∧ _); refine ⟨rfl, ?_⟩)
  | ((with_reducible show List.length _ ≤ sizeLine ∧ ∀ p, _); refine ⟨(by walk_at "size"), fun p hp => ?_⟩)
  | ((with_reducible show rIsi _ _ _ _); first | refine isi_bb ?_ | refine isi_ib ?_ | refine isi_bi ?_ | refine isi_ii ?_ | refine isi_tt (by assumption) ?_ | refine isi_ll (by assumption) ?_)
  | ((with_reducible show spDraw _ _ _ _ _); refine ⟨_, _, _, rfl, _, _, _, _, rfl, rfl, rfl, (by walk_at "dr"), (by walk_at "ar"), (by walk_at "ar"), ?_⟩)
  | ((with_reducible show tUn _ _ _ _ _); refine e_un ?_)
  | ((with_reducible show rU _ (V.int _) _ _); refine e_U ?_)
  | ((with_reducible show ∃ i, [V.int _] = [V.int i] ∧ _); refine ⟨_, rfl, ?_⟩)
  | ((with_reducible show gTup _ _ _ _ _ _ _); refine ⟨_, _, rfl, (by walk_at "slt"), rfl, ?_⟩)
  | ((with_reducible show gCons _ _ _ _ _ _); refine ⟨_, _, rfl, ?_⟩)
  | ((with_reducible show gNil _ _ _ _); refine ⟨rfl, ?_⟩)
  | ((with_reducible show tAug _ _ _ _ _ _); refine e_aug rfl ?_)
  | ((with_reducible show if true = true then _ else _); refine i_T ?_)
  | ((with_reducible show if false = true then _ else _); refine i_F ?_))
local macro_rules | `(tactic| walk_at "st") => `(tactic| first | walk_at "st1" | walk_at "st2" | (dsimp only [List.append_nil, List.nil_append, List.cons_append, Bool.not_true, Bool.not_false]))
local macro_rules | `(tactic| walk_at "go") => `(tactic| repeat walk_at "st")
local macro_rules | `(tactic| walk_at "st") => `(tactic| first
  | ((with_reducible show iRevR _ _ _ _); refine e_iRevR ?_)
  | ((with_reducible show tRg1 _ _ _ _); refine e_rg1 ?_)
  | ((with_reducible show tRg2 _ _ _ _ _); refine e_rg2 ?_)
  | ((with_reducible show iEnum _ _ _ _ _); refine e_iEnum ?_)
  | ((with_reducible show iEnumT _ _ _ _ _); refine e_iEnumT ?_)
  | ((with_reducible show iRng3 _ _ _ _); refine e_iRng3 ?_)
  | ((with_reducible show ∃ p ys, [V.ref _] = [V.ref p] ∧ SqL _ _ p ys ∧ _); refine ⟨_, _, rfl, (by walk_at "sl"), ?_⟩)
  | ((with_reducible show ∃ p ys, [V.ref _] = [V.ref p] ∧ SqT _ _ p ys ∧ _); refine ⟨_, _, rfl, (by walk_at "slt"), ?_⟩)
  | ((with_reducible show tyV _ "list" (V.ref _) _ ∧ _); refine ⟨.inl ⟨rfl, _, (by walk_at "sl")⟩, ?_⟩)
  | ((with_reducible show ∃ a b, V.bl _ = V.bl a ∧ V.bl _ = V.bl b ∧ _); refine ⟨_, _, rfl, rfl, ?_⟩)
  | ((with_reducible show ∃ c, V.bl _ = V.bl c ∧ _); refine ⟨_, rfl, ?_⟩)
  | ((with_reducible show if (!true) = true then _ else _); refine i_F ?_)
  | ((with_reducible show if (!false) = true then _ else _); refine i_T ?_))
local macro_rules | `(tactic| walk_at "ent") => `(tactic| first
  | assumption
  | exact Ent.same (by assumption) (by assumption))
local macro_rules | `(tactic| walk_at "st") => `(tactic| first
  | ((with_reducible show tMake _ _ _ _ _ _ _ _); refine e_tMake ?_)
  | ((with_reducible show tFld _ _ _ _ _ _); refine e_tFld ?_)
  | ((with_reducible show sFld _ _ _ _ _ _ _); refine e_sFld ?_)
  | ((with_reducible show tTupP _ _ _ _); refine e_tupP ?_)
  | ((with_reducible show tJs (_ :: _) _ _ _ _); refine e_js ?_)
  | ((with_reducible show tJs [] _ _ _ _); refine e_js0 ?_)
  | ((with_reducible show tFmt _ _ _ _); refine e_fmt ?_)
  | ((with_reducible show tMaxF _ _ _ _ _ _); refine e_maxF ?_)
  | ((with_reducible show ∃ a C dx fs v, V.ref _ = V.ref a ∧ _); first
    | refine f_name (by assumption) (by walk_at "ent") ?_
    | refine f_height (by assumption) (by walk_at "ent") ?_
    | refine f_deleted (by assumption) (by walk_at "ent") ?_
    | refine f_time (by assumption) (by walk_at "ent") ?_
    | refine f_vector (by assumption) (by walk_at "ent") fun v hv => ?_
    | refine f_maker (by assumption) (by walk_at "ent") fun v hv => ?_
    | refine f_blocks (by assumption) (by walk_at "ent") fun v hv => ?_))
local macro_rules | `(tactic| walk_at "st") => `(tactic| first
  | ((with_reducible show tDGet _ _ _ _ _); refine e_tDGet ?_)
  | ((with_reducible show tDGet2 _ _ _ _ _ _); refine e_tDGet2 ?_)
  | ((with_reducible show sDPut _ _ _ _ _ _); refine e_sDPut ?_)
  | ((with_reducible show tDIn _ _ _ _ _); refine e_tDIn ?_)
  | ((with_reducible show tDNotIn _ _ _ _ _); refine e_tDNotIn ?_)
  | ((with_reducible show tDSetd _ _ _ _ _ _); refine e_tDSetd ?_)
  | ((with_reducible show tDc _ _ _ _ _ _ _ _ _); refine e_dc ?_)
  | ((with_reducible show tLc2 _ _ _ _ _ _ _ _ _ _ _ _); refine e_lc2 ?_)
  | ((with_reducible show tLockE _ _ _ _); refine e_lockE ?_)
  | ((with_reducible show iItems _ _ _ _); refine e_iItems ?_)
  | ((with_reducible show sFldAug _ _ _ _ _ _ _ _); refine e_sFldAug ?_)
  | ((with_reducible show tMeth _ _ _ _ _ _ _ _ _ _); refine e_tMeth ?_))
local macro_rules | `(tactic| walk_at "sto") => `(tactic| first
  | assumption
  | exact Sto.same (by assumption) (by assumption)
  | exact Sto.sub (by assumption))
local macro_rules | `(tactic| walk_at "st") => `(tactic| first
  | ((with_reducible show ∃ a C dx fs v, V.ref _ = V.ref a ∧ _); first
    | refine s_files (by assumption) (by assumption) ?_
    | refine s_temps (by assumption) (by assumption) ?_
    | refine s_attic (by assumption) (by assumption) ?_
    | refine s_log (by assumption) (by assumption) ?_
    | refine s_nlog (by assumption) (by assumption) ?_
    | refine s_budget (by assumption) (by assumption) ?_
    | refine s_done (by assumption) (by assumption) ?_)
  | ((with_reducible show if (Option.isSome (some _)) = true then _ else _); refine i_some ?_)
  | ((with_reducible show if (Option.isSome none) = true then _ else _); refine i_none ?_)
  | ((with_reducible show if (!(Option.isSome (some _))) = true then _ else _); refine i_nsome ?_)
  | ((with_reducible show if (!(Option.isSome none)) = true then _ else _); refine i_nnone ?_)
  | ((with_reducible show ∃ a dx fs, V.ref _ = V.ref a ∧ _); refine s_meth (by walk_at "sto") (by decide) ?_))
section
variable {P : Program} {w : World} {K : PySem.W.Frag} {mg : Str → Option Value} {base : Heap}
theorem ok_Rule___init__ (T : Txt K mg)   {f : Addr} {fd : FuncData} (F : FunD K "__init__" "Rule.__init__" (defArgs s_Rule___init__) (defBody s_Rule___init__) (defScope s_Rule___init__) [] [] f fd) : FnOk P w K mg base CX0 1 f fd ["self", "each", "total"] (sp_Rule___init__ K) := by
  refine F.ok sc_Rule___init__ (fun vs H Q E h => ?_) (fun cdv A outer s H vs Q E hr h => ?_)
  · obtain ⟨_, _, _, rfl, _⟩ := h
    rfl
  · have S := sc_Rule___init__
    refine ⟨_, PSs.nox (pss_cons (ps_fld (pv 0) (pv 1) rfl)
    (pss_one (ps_fld (pv 0) (pv 2) rfl))), ?_⟩
    try dsimp only [cxOf, Cx.nox]
    obtain ⟨_, _, _, rfl, a, dx, rfl, ha, k⟩ := h
    walk_at "go"
    refine ⟨a, _, dx, _, rfl, ha, T.cl_Rule, T.no_Rule_each, lt_put (by decide), ?_⟩
    walk_at "go"
    refine ⟨a, _, dx, _, rfl, upd_same, T.cl_Rule, T.no_Rule_total, lt_put (Nat.le_trans (len_put (n := 0) (Nat.le_refl 0)) (by decide)), ?_⟩
    simp only [upd_upd]
    exact k
theorem ok_Rule___eq__ (T : Txt K mg)   {f : Addr} {fd : FuncData} (F : FunD K "__eq__" "Rule.__eq__" (defArgs s_Rule___eq__) (defBody s_Rule___eq__) (defScope s_Rule___eq__) [] [] f fd) : FnOk P w K mg base CX0 1 f fd ["self", "other"] (sp_Rule___eq__ K) := by
  refine F.ok sc_Rule___eq__ (fun vs H Q E h => ?_) (fun cdv A outer s H vs Q E hr h => ?_)
  · obtain ⟨_, _, rfl, _⟩ := h
    rfl
  · have S := sc_Rule___eq__
    refine ⟨_, PSs.nox (pss_one (ps_ret (pe_and (pe_callB call_isi (by rfl) T.f_isinstance (by first | rfl | decide +kernel) (pa_cons (pv 1) (pa_cons (pe_glob (v := V.ref (He.ga K "Rule")) (by rfl) T.g_Rule rfl) pa_nil))) (pe_and (pe_cmpR op_eq (pe_fld (pv 0) rfl) (pe_fld (pv 1) rfl) (nomark _)) (pe_one (pe_cmpR op_eq (pe_fld (pv 0) rfl) (pe_fld (pv 1) rfl) (nomark _))))))), ?_⟩
    try dsimp only [cxOf, Cx.nox]
    obtain ⟨_, _, rfl, a, e, t, rfl, ha, h⟩ := h
    have c1 := T.cl_Rule
    have c2 := T.no_Rule_each
    have c3 := T.no_Rule_total
    have ct := T.ct_Rule
    rcases h with ⟨b, e2, t2, rfl, hb, k⟩ | ⟨b, ys, rfl, hb, k⟩
    · have ⟨dy, gs, hb1, _⟩ := hb
      walk_at "go"
      refine ⟨.ref b, .ref _, _, _, true, rfl, .own _, .base (.ins hb1 c1 ct.ha ct.hn ct.htk ct.hm), ct.own, ?_⟩
      walk_at "go"
      refine r_each c1 c2 ha ?_
      walk_at "go"
      refine r_each c1 c2 hb ?_
      walk_at "go"
      refine i_d (fun h1 => ?_) (fun h1 => ?_)
      · walk_at "go"
        refine r_total c1 c3 ha ?_
        walk_at "go"
        refine r_total c1 c3 hb ?_
        walk_at "go"
        rw [decide_eq_true h1, Bool.true_and] at k
        exact k
      · walk_at "go"
        rw [decide_eq_false h1, Bool.false_and] at k
        exact k
    · walk_at "go"
      refine ⟨.ref b, .ref _, _, _, false, rfl, .own _, .base (.tup hb), ct.tup, ?_⟩
      walk_at "go"
      exact k
theorem ok_keep (T : Txt K mg)  (m_Store_attic : C8.Met P w K mg base 1 (He.ga K "Store") "attic" (sp_Store_attic K) []) (m_Store_attic_put : C8.Met P w K mg base 2 (He.ga K "Store") "attic_put" (sp_Store_attic_put K) []) (c_tidy : Cal P w K mg base 3 "tidy" (sp_tidy K)) {f : Addr} {fd : FuncData} (F : FnP K "keep" s_keep f fd) : FnOk P w K mg base CX0 4 f fd ["store", "rule", "name", "vector", "content"] (sp_keep K) := by
  refine F.ok sc_keep (fun vs H Q E h => ?_) (fun cdv A outer s H vs Q E hr h => ?_)
  · obtain ⟨_, _, _, _, _, rfl, _⟩ := h
    rfl
  · have S := sc_keep
    refine ⟨_, PSs.nox (C8.pss_cut (ps_if (pt_cmpR (op_notInD (un65 hr)) (pe_tup (pa_cons (pv 2) (pa_cons (pv 3) (pa_cons (pv 4) pa_nil)))) (C8.pe_mt0 m_Store_attic hr (by decide) (pv 0)) (by first | rfl | with_unfolding_all rfl))
    (pss_one (ps_expr (C8.pe_mt m_Store_attic_put hr (by decide) (pv 0) (pa_cons (pv 2) (pa_cons (pv 3) (pa_cons (pv 4) pa_nil))))))
    pss_nil)
    (pss_one (ps_ret (pe_c c_tidy hr (by decide) (by rfl) (pa_cons (pv 0) (pa_cons (pv 1) pa_nil)))))), ?_⟩
    try dsimp only [cxOf, Cx.nox]
    have st0 : STT K := ⟨T.cl_Store, T.no_Store__files, T.no_Store__temps, T.no_Store__attic, T.no_Store__log, T.no_Store__new_log, T.no_Store__budget, T.no_Store__done⟩
    obtain ⟨_, _, _, _, _, rfl, a, ra, w, c, F, D, S, e, t, nm, vc, bs, rfl, rfl, rfl, rfl, rfl, hA, hS, hR, hV, hc, ncD, hl, h6, hnm, k⟩ := h
    have hall : ∀ x ∈ putA S.at_ (nm, (vc, bs)), x.1 ∈ S6 := fun x hx => by
      unfold putA at hx
      split at hx
      · exact h6 x hx
      · rcases List.mem_append.mp hx with m | m
        · exact h6 x m
        · rw [List.mem_singleton.mp m]; exact hnm
    have hlen : (putA S.at_ (nm, (vc, bs))).length ≤ 60 := by
      unfold putA
      split
      · omega
      · rw [List.length_append, List.length_singleton]; omega
    refine e_cut (Mid := fun σ' H' => σ' = [some (.ref a), some (.ref ra), some (.str nm), some (.ref w), some (.ref c)] ∧ Fr F H H' ∧ ∃ n : Int, Sto K (hid D H') F a { S with at_ := putA S.at_ (nm, (vc, bs)), n := n }) ?_ ?_
    · walk_at "go"
      rename_i tt htt
      have s0 := same_new (o := .tup [.str nm, .ref w, .ref c]) htt
      have hAt : AttA K (upd H tt (.tup [.str nm, .ref w, .ref c])) tt (nm, (vc, bs)) := ⟨w, c, upd_same, hV.same s0, s0 _ _ hc⟩
      have hS0 := (hS.same (hid_same s0)).sub
      walk_at "go"
      refine ⟨_, rfl, a, F, [], S, rfl, hS0, (fun _ m => by cases m), by omega, fun p qs H1 hp s1 e1 hQ => ?_⟩
      have hAt1 := hAt.same s1
      have hA1 := ats_same hQ hid_sub
      have sA := s0.trans s1
      have hS1 := hS.same (hid_same sA)
      have hV1 := hV.same sA
      have hc1 := sA _ _ hc
      walk_at "go"
      refine ⟨rowD (nm, (vc, bs)), S.at_.map rowD, dp_row hAt1, .lst (SqL.of e1) (dp_rows hA1), row_shaped _ hnm, rows_shaped _ h6, ?_⟩
      walk_at "go"
      refine i_nb (fun z => ?_) (fun z => ?_)
      · have ep : putA S.at_ (nm, (vc, bs)) = S.at_ ++ [(nm, (vc, bs))] := by
          unfold putA isinR
          rw [z]; rfl
        walk_at "go"
        refine ⟨_, _, _, _, rfl, a, w, c, F, D, S, nm, vc, bs, rfl, rfl, rfl, rfl, hA.same sA, hS1, hV1, SqL.of hc1, by omega, fun H2 f2 s2 => ?_⟩
        refine ⟨rfl, (Fr.of sA).trans f2, S.n + 1, ?_⟩
        rw [ep]
        exact s2
      · have ep : putA S.at_ (nm, (vc, bs)) = S.at_ := by
          unfold putA isinR
          rw [z]; rfl
        walk_at "go"
        refine ⟨rfl, Fr.of sA, S.n, ?_⟩
        rw [ep]
        exact hS1
    · rintro σ' H' ⟨rfl, f1, n, st⟩
      have hR1 := hR.same (hid_fr f1)
      walk_at "go"
      refine ⟨_, _, rfl, a, ra, F, D, _, e, t, rfl, rfl, hA.fr hS f1, st, hR1, hlen, hall, fun g gs H2 n2 hg f2 st2 e2 q2 ng => ?_⟩
      walk_at "go"
      refine k g gs H2 n2 ?_ (f1.trans f2) st2 e2 q2 ng
      exact fr_back f1 ng hg
theorem ok_tidy (T : Txt K mg)  (m_Store_attic : C8.Met P w K mg base 1 (He.ga K "Store") "attic" (sp_Store_attic K) []) (c_indexes_of : Cal P w K mg base 1 "_indexes_of" (sp_indexes_of K)) (m_Store_attic_drop : C8.Met P w K mg base 2 (He.ga K "Store") "attic_drop" (sp_Store_attic_drop K) []) (c_bytes_of : Cal P w K mg base 1 "_bytes_of" (sp_bytes_of K)) {f : Addr} {fd : FuncData} (F : FnP K "tidy" s_tidy f fd) : FnOk P w K mg base CX0 3 f fd ["store", "rule"] (sp_tidy K) := by
  refine F.ok sc_tidy (fun vs H Q E h => ?_) (fun cdv A outer s H vs Q E hr h => ?_)
  · obtain ⟨_, _, rfl, _⟩ := h
    rfl
  · have S := sc_tidy
    refine ⟨_, PSs.nox (pss_cons (ps_set (i := 2) S.nd rfl (by first | exact .inl rfl | exact .inr rfl) (C8.pe_mt0 m_Store_attic hr (by decide) (pv 0)))
    (pss_cons (ps_set (i := 3) S.nd rfl (by first | exact .inl rfl | exact .inr rfl) (pe_lst pa_nil))
    (pss_cons (ps_set (i := 4) S.nd rfl (by first | exact .inl rfl | exact .inr rfl) (pe_callB (cr_sortedT rfl) (by rfl) T.f_sorted (by first | rfl | decide +kernel) (pa_cons (pe_callTy (cr_setT rfl) (by rfl) T.f_set (by first | rfl | decide +kernel) (pa_cons (pe_lc (own := [("row", 9)]) (g := gName 9) (tt := tYes) rfl S.nd (pi_list (pv 2)) (blkOk_by (N := N_tidy) (sc := defScope s_tidy) (by decide +kernel)) (fun _ _ _ _ _ => (pg_name (i := 9) S.nd rfl (by first | exact .inl rfl | exact .inr rfl))) (fun _ _ _ _ _ => pts_nil) (fun _ _ _ _ _ => (pe_ix (ixT K) (pv 9) pe_int (fun _ _ => rfl)))) pa_nil)) pa_nil)))
    (pss_cons (ps_for PassesOwn.never rfl (pi_list (pv 4)) (pg_name (i := 5) S.nd rfl (by first | exact .inl rfl | exact .inr rfl))
    (pss_cons (ps_set (i := 6) S.nd rfl (by first | exact .inl rfl | exact .inr rfl) (pe_c c_indexes_of hr (by decide) (by rfl) (pa_cons (pv 2) (pa_cons (pv 5) pa_nil))))
      (pss_one (ps_for PassesOwn.never rfl (pi_enum (by rfl) T.f_enumerate (pa_cons (pe_slice sl_list (pv 6) po_none (po_some (pe_callB (call_max2 rfl) (by rfl) T.f_max (by first | rfl | decide +kernel) (pa_cons pe_int (pa_cons (pe_op op_sub (pe_callB call_len_seq (by rfl) T.f_len (by first | rfl | decide +kernel) (pa_cons (pv 6) pa_nil)) (pe_fld (pv 1) rfl)) pa_nil))))) pa_nil)) (pg_tup rfl (pgs_cons (pg_name (i := 7) S.nd rfl (by first | exact .inl rfl | exact .inr rfl)) (pgs_cons (pg_name (i := 8) S.nd rfl (by first | exact .inl rfl | exact .inr rfl)) pgs_nil)))
      (pss_cons (ps_expr (C8.pe_mt m_Store_attic_drop hr (by decide) (pv 0) (pa_cons (pe_op op_sub (pv 8) (pv 7)) pa_nil)))
        (pss_one (ps_expr (pe_bm PySem.F.plainAttrs_list PySem.F.slot_list_append PySem.F.type_list_append mt_append (pv 3) (pa_cons (pe_bm PySem.F.plainAttrs_list PySem.F.slot_list_pop PySem.F.type_list_pop mt_popAt (pv 2) (pa_cons (pe_op op_sub (pv 8) (pv 7)) pa_nil)) pa_nil)))))))))
    (pss_cons (ps_while PassesOwn.never (pt_cmpR op_gt (pe_c c_bytes_of hr (by decide) (by rfl) (pa_cons (pv 2) pa_nil)) (pe_fld (pv 1) rfl) (nomark _))
    (pss_cons (ps_expr (C8.pe_mt m_Store_attic_drop hr (by decide) (pv 0) (pa_cons pe_int pa_nil)))
      (pss_one (ps_expr (pe_bm PySem.F.plainAttrs_list PySem.F.slot_list_append PySem.F.type_list_append mt_append (pv 3) (pa_cons (pe_bm PySem.F.plainAttrs_list PySem.F.slot_list_pop PySem.F.type_list_pop mt_popAt (pv 2) (pa_cons pe_int pa_nil)) pa_nil))))))
    (pss_one (ps_ret (pv 3)))))))), ?_⟩
    try dsimp only [cxOf, Cx.nox]
    have st0 : STT K := ⟨T.cl_Store, T.no_Store__files, T.no_Store__temps, T.no_Store__attic, T.no_Store__log, T.no_Store__new_log, T.no_Store__budget, T.no_Store__done⟩
    obtain ⟨_, _, rfl, a, ra, F, D, S, e, t, rfl, rfl, hA, hS, hR, hl, h6, k⟩ := h
    have c1 := T.cl_Rule
    have c2 := T.no_Rule_each
    have c3 := T.no_Rule_total
    walk_at "go"
    refine ⟨_, rfl, a, F, D, S, rfl, hS.sub, (fun d m => let ⟨xs, e⟩ := hA d m; ⟨⟨_, e⟩, nt_lst e⟩), by omega, fun p qs H1 hp s1 e1 hQ => ?_⟩
    have lq : qs.length = S.at_.length := paired_len hQ
    walk_at "go"
    rename_i g hg
    have s2 := same_new (o := .lst []) hg
    have pF : p ∉ F := hS.new hp
    have gF : g ∉ F := hS.new (s1.free hg)
    have pg : p ≠ g := fun z => by rw [z, hg] at e1; cases e1
    have v0 : Tv K H (upd H1 g (.lst [])) F D a p g S [] S.at_ := by
      refine ⟨Fr.of (s1.trans s2), ⟨S.n, hS.same fun y o h => ?_⟩, (hA.same s1).same s2, pF, gF, pg, hp, s1.free hg, ⟨qs, s2 _ _ e1, ats_same hQ fun y o h => ?_⟩, ⟨[], upd_same, .nil⟩⟩
      · obtain ⟨n, h⟩ := hid_some h
        rw [hid_at (by
          intro m
          rcases List.mem_cons.mp m with z | m
          · rw [z, hp] at h; cases h
          rcases List.mem_cons.mp m with z | m
          · rw [z, s1.free hg] at h; cases h
          · exact n m)]
        exact s2 _ _ (s1 _ _ h)
      · obtain ⟨n, h⟩ := hid_some h
        rw [hid_at (by
          intro m
          rcases List.mem_cons.mp m with z | m
          · exact n (by rw [z]; simp)
          rcases List.mem_cons.mp m with z | m
          · rw [z, hg] at h; cases h
          · exact n (List.mem_cons_of_mem _ m))]
        exact s2 _ _ h
    have e2 := s2 _ _ e1
    have hA2 := ats_same (ats_same hQ hid_sub) s2
    generalize upd H1 g (.lst []) = H2 at v0 e2 hA2 ⊢
    clear hQ s2 hg e1 s1
    walk_at "go"
    intro D2 hD2
    refine lc_rel (walk_list (K := K) (xs := qs.map V.ref)) hD2 (by rw [List.length_map]; omega) (fun H3 s3 => s3.seq (SqL.of e2)) (fun i v _ => ∃ r, S.at_[i]? = some r ∧ v = V.str r.1) (fun i v H3 H4 h s => h) (fun i y H3 H4 C E acc hi s3 e3 hy hC => ?_) (fun H3 us s3 e3 l3 hr => ?_)
    · obtain ⟨rfl, hx⟩ := hy
      rw [List.getElem?_map] at hx
      obtain ⟨q, hq, rfl⟩ := Option.map_eq_some_iff.mp hx
      obtain ⟨rr, hrr, vv, c, t1, t2, t3⟩ := paired_get hA2 i q hq
      have t1 := s3 _ _ t1
      walk_at "go"
      refine e_ixT (SqT.of t1) rfl ?_
      exact hC _ _ (Same.refl _) ⟨rr, hrr, rfl⟩
    have eu := rel_vals (l := S.at_) (fun r => V.str r.1) (by rw [l3, List.length_map, lq]) hr
    have v3 := v0.same s3
    walk_at "go"
    refine ⟨D2, S.at_.map (·.1), rfl, SqL.of (by rw [List.map_map]; rw [eu] at e3; exact e3), by rw [List.length_map]; omega, fun sa L hsa hle hmm => ?_⟩
    rw [List.length_map] at hle
    have s4 := same_new (o := TxO w sa L) hsa
    walk_at "go"
    refine ⟨sa, L, rfl, upd_same, by omega, fun ys py hn hperm hsort hpy => ?_⟩
    have s5 := same_new (o := .lst (ys.map V.str)) hpy
    have v5 := v3.same (s4.trans s5)
    have ly : ys.length ≤ 60 := by rw [hperm.length_eq]; omega
    have lp : py ∉ p :: g :: (D ++ F) := by
      intro m
      have hpy := s4.free hpy
      rcases List.mem_cons.mp m with z | m
      · obtain ⟨qs', e', _⟩ := v3.q
        rw [z, e'] at hpy; cases hpy
      rcases List.mem_cons.mp m with z | m
      · obtain ⟨gs', e', _⟩ := v3.r
        rw [z, e'] at hpy; cases hpy
      rcases List.mem_append.mp m with m | m
      · obtain ⟨xs, e'⟩ := v3.al py m
        rw [e'] at hpy; cases hpy
      · obtain ⟨n, st⟩ := v3.st
        exact st.new hpy m
    have ey : hid (p :: g :: (D ++ F)) (upd (upd H3 sa (TxO w sa L)) py (.lst (ys.map V.str))) py = some (.lst (ys.map V.str)) := by rw [hid_at lp, upd_same]
    generalize upd (upd H3 sa (TxO w sa L)) py (.lst (ys.map V.str)) = H6 at v5 ey ⊢
    clear v3 v0 s3 s4 s5 hsa hpy hD2 e3 hr eu e2 hA2 lq lp
    have ey2 := hid_sub _ _ ey
    walk_at "go"
    refine for_list (K := K) (xs := ys.map V.str) (fun i σ H4 => (∃ v5 v6 v7 v8, σ = [some (.ref a), some (.ref ra), some (.ref p), some (.ref g), some (.ref py), v5, v6, v7, v8, none]) ∧ hid (p :: g :: (D ++ F)) H4 py = some (.lst (ys.map V.str)) ∧ ∃ s : List Rw × List Rw, Tv K H H4 F D a p g S s.1 s.2 ∧ s = (ys.take i).foldl (stpN e) ([], S.at_)) ⟨⟨_, _, _, _, rfl⟩, ey, _, v5, rfl⟩ (fun i σ H4 _ q => SqL.of (hid_sub _ _ q.2.1)) (fun i x σ H4 hx q => ?_) (fun σ H4 q => ?_)
    · obtain ⟨⟨v5, v6, v7, v8, rfl⟩, ey, s, v, hf⟩ := q
      rw [List.getElem?_map] at hx
      obtain ⟨nm, hnm, rfl⟩ := Option.map_eq_some_iff.mp hx
      have l2 : s.2.length ≤ 60 := by rw [hf]; exact Nat.le_trans (at_fold_len e _ _) hl
      obtain ⟨qs4, e4, q4⟩ := v.q
      walk_at "go"
      refine ⟨_, _, rfl, p, qs4, s.2, nm, rfl, rfl, SqL.of e4, ats_same q4 hid_sub, by omega, fun ix H5 hix s5 e5 => ?_⟩
      have v5 := v.same s5
      have hR5 := (hR.same (hid_fr v5.fr)).same hid_sub
      walk_at "go"
      refine r_each c1 c2 hR5 ?_
      walk_at "go"
      refine ⟨_, _, rfl, _, rfl, ?_⟩
      rw [List.length_map, List.length_map, pos_len, max0]
      refine e_slL (SqL.of e5) fun sl hsl => ?_
      rw [cut_toV, ← List.map_take]
      have s6 := same_new (o := .lst (((((posP (isN nm) 0 s.2).map fun i : Nat => (i : Int))).take (overN e nm s.2)).map V.int)) hsl
      have v6 := v5.same s6
      have lsl : sl ∉ p :: g :: (D ++ F) := by
        intro m
        rcases List.mem_cons.mp m with z | m
        · obtain ⟨qs', e', _⟩ := v5.q
          rw [z, e'] at hsl; cases hsl
        rcases List.mem_cons.mp m with z | m
        · obtain ⟨gs', e', _⟩ := v5.r
          rw [z, e'] at hsl; cases hsl
        rcases List.mem_append.mp m with m | m
        · obtain ⟨xs, e'⟩ := v5.al sl m
          rw [e'] at hsl; cases hsl
        · obtain ⟨n, st⟩ := v5.st
          exact st.new hsl m
      have esl : hid (p :: g :: (D ++ F)) (upd H5 sl (.lst (((((posP (isN nm) 0 s.2).map fun i : Nat => (i : Int))).take (overN e nm s.2)).map V.int))) sl = _ := (hid_at lsl).trans upd_same
      have ey6 := Tv.hs (p := p) (g := g) (F := F) (D := D) (Fr.of (s5.trans s6)) _ _ ey
      have lm : (s.2.filter (isN nm)).length - e = overN e nm s.2 := rfl
      rw [lm]
      have lg : s.1.length ≤ 4000 := by
        rw [hf]
        have h1 := at_foldG_len e (ys.take i) ([], S.at_)
        have h2 : (ys.take i).length * S.at_.length ≤ 60 * 60 := Nat.mul_le_mul (by rw [List.length_take]; omega) hl
        simp only [List.length_nil] at h1
        omega
      generalize upd H5 sl (.lst (((((posP (isN nm) 0 s.2).map fun i : Nat => (i : Int))).take (overN e nm s.2)).map V.int)) = H6 at v6 esl ey6 ⊢
      clear v5 hR5 v ey hsl s5 s6 lsl e4 q4 hix e5
      have esl2 := hid_sub _ _ esl
      walk_at "go"
      refine for_enumI (ns := ((posP (isN nm) 0 s.2).map fun i : Nat => (i : Int)).take (overN e nm s.2)) (fun pre σ H7 => (∃ v7 v8, σ = [some (.ref a), some (.ref ra), some (.ref p), some (.ref g), some (.ref py), some (.str nm), some (.ref ix), v7, v8, none]) ∧ hid (p :: g :: (D ++ F)) H7 py = some (.lst (ys.map V.str)) ∧ hid (p :: g :: (D ++ F)) H7 sl = some (.lst ((((posP (isN nm) 0 s.2).map fun i : Nat => (i : Int)).take (overN e nm s.2)).map V.int)) ∧ Tv K H H7 F D a p g S (s.1 ++ (s.2.filter (isN nm)).take pre.length) (rmP (isN nm) pre.length s.2)) ⟨⟨_, _, rfl⟩, ey6, esl, by rw [List.length_nil, List.take_zero, List.append_nil]; exact v6⟩ (fun pre σ H7 q => SqL.of (hid_sub _ _ q.2.2.1)) (fun pre x post Ta σ H7 ens q hT => ?_) (fun σ H7 q => ?_)
      · obtain ⟨⟨v7, v8, rfl⟩, ey7, esl7, v⟩ := q
        have hxj : (((posP (isN nm) 0 s.2).map fun i : Nat => (i : Int)).take (overN e nm s.2))[pre.length]? = some x := by rw [ens]; simp
        rw [List.getElem?_take] at hxj
        split at hxj
        case isFalse => cases hxj
        rename_i hjo
        rw [List.getElem?_map] at hxj
        obtain ⟨ij, hij, rfl⟩ := Option.map_eq_some_iff.mp hxj
        obtain ⟨r, g1, g2, g3, g4, g5, g6, g7⟩ := rm_next hij
        have ex : ((ij : Nat) : Int) - (pre.length : Nat) = ((ij - pre.length : Nat) : Int) := by omega
        have sT := same_new (o := .tup [.int (pre.length : Nat), .int (ij : Nat)]) hT
        have v2 := v.same sT
        have hl7 := rmP_len (isN nm) s.2 pre.length
        have hlt := (List.getElem?_eq_some_iff.mp g2).1
        obtain ⟨n, st⟩ := v2.st
        have hS7 := st.sub
        walk_at "go"
        refine ⟨_, _, rfl, a, F, p :: g :: D, _, ij - pre.length, rfl, congrArg V.int ex, v2.lists, st, by show (rmP (isN nm) pre.length s.2).length ≤ 1000; omega, hlt, fun H8 f8 s8 => ?_⟩
        obtain ⟨y, xs, zs, b1, b2, b3, b4, b5, v3⟩ := v2.step g2 f8 s8
        walk_at "go"
        refine ⟨p, xs, _, ij - pre.length, _, rfl, rfl, b1, by omega, by omega, by rw [ex, b3]; exact seq_nat hlt, b2, ?_⟩
        walk_at "go"
        refine ⟨g, zs, _, rfl, rfl, by rw [upd_ne (Ne.symm v.pg)]; exact b4, ?_, ?_⟩
        · rw [b5, List.length_append, List.length_take]
          have := List.length_filter_le (isN nm) s.2
          exact Nat.lt_of_le_of_lt (by omega : _ ≤ 100000) (by decide)
        have hs8 : Same (hid (p :: g :: (D ++ F)) H7) (hid (p :: g :: (D ++ F)) (upd (upd H8 p (.lst (xs.eraseIdx (ij - pre.length)))) g (.lst (zs ++ [.ref y])))) := by
          rw [hid_upd_in (by simp), hid_upd_in (by simp)]
          exact (Tv.hs (Fr.of sT)).trans (Tv.hs f8)
        refine ⟨⟨_, _, rfl⟩, hs8 _ _ ey7, hs8 _ _ esl7, ?_⟩
        rw [List.length_append, List.length_singleton, g4, g6, ← List.append_assoc]
        exact v3
      · obtain ⟨⟨v7, v8, rfl⟩, ey7, esl7, v⟩ := q
        have lt : (((posP (isN nm) 0 s.2).map fun i : Nat => (i : Int)).take (overN e nm s.2)).length = overN e nm s.2 := by
          rw [List.length_take, List.length_map, pos_len]
          unfold overN
          omega
        rw [lt] at v
        refine ⟨⟨_, _, _, _, rfl⟩, ey7, stpN e s nm, v, ?_⟩
        rw [List.take_add_one, hnm, Option.toList, List.foldl_append, ← hf]; rfl
    · obtain ⟨⟨v5, v6, v7, v8, rfl⟩, ey, s, v, hf⟩ := q
      rw [List.length_map, List.take_length, fold_names e S.at_ ys L h6 hn hmm hperm hsort] at hf
      have l2 : s.2.length ≤ 60 := by rw [hf]; exact Nat.le_trans (at_fold_len e _ _) hl
      have lg : s.1.length ≤ 4000 := by
        rw [hf]
        have h1 := at_foldG_len e S6 ([], S.at_)
        have h2 : S6.length * S.at_.length ≤ 6 * 60 := Nat.mul_le_mul (by decide) hl
        simp only [List.length_nil] at h1
        show (tidA e S.at_).1.length ≤ _
        unfold tidA
        omega
      refine e_tWhile ⟨Wt K H F D a ra p g py S e t, ⟨_, ⟨_, _, _, _, rfl⟩, s.1, s.2, rfl, l2, by omega, v, by rw [hf]; rfl, by rw [hf]; rfl⟩, fun m σ H5 q => ?_⟩
      clear v hf l2 lg ey
      obtain ⟨⟨v5, v6, v7, v8, rfl⟩, gone, l, rfl, l2, l3, v, h1, h2⟩ := q
      obtain ⟨qs5, e5, q5⟩ := v.q
      walk_at "go"
      refine ⟨_, rfl, p, qs5, l, rfl, SqL.of e5, ats_same q5 hid_sub, by omega, fun H7 s7 => ?_⟩
      have v7 := v.same s7
      have hR7 := (hR.same (hid_fr v7.fr)).same hid_sub
      walk_at "go"
      refine r_total c1 c3 hR7 ?_
      walk_at "go"
      refine i_d (fun z => ?_) (fun z => ?_)
      · obtain ⟨r, l', rfl, c4, c5⟩ := at_cut_go (t := t) (l := l) (by omega)
        rw [List.length_cons] at l2 l3
        refine ⟨fun σ' H' => ∃ m', m' < (r :: l').length ∧ Wt K H F D a ra p g py S e t m' σ' H', fun _ _ q => q, ?_⟩
        obtain ⟨n, st⟩ := v7.st
        have hS7 := st.sub
        walk_at "go"
        refine ⟨_, _, rfl, a, F, p :: g :: D, _, 0, rfl, rfl, v7.lists, st, by show (r :: l').length ≤ 1000; rw [List.length_cons]; omega, by show 0 < (r :: l').length; simp, fun H8 f8 s8 => ?_⟩
        obtain ⟨y, xs, zs, b1, b2, b3, b4, b5, v3⟩ := v7.step (i := 0) (x := r) rfl f8 s8
        walk_at "go"
        refine ⟨p, xs, _, 0, _, rfl, rfl, b1, by decide, by decide, by rw [b3]; exact seq_nat (by simp), b2, ?_⟩
        walk_at "go"
        refine ⟨g, zs, _, rfl, rfl, by rw [upd_ne (Ne.symm v.pg)]; exact b4, ?_, ?_⟩
        · rw [b5]
          exact Nat.lt_of_le_of_lt (by omega : _ ≤ 100000) (by decide)
        refine ⟨l'.length, by simp, ⟨_, _, _, _, rfl⟩, gone ++ [r], l', rfl, by omega, by rw [List.length_append, List.length_singleton]; omega, v3, ?_, by rw [← c4]; exact h2⟩
        rw [List.append_assoc, ← h1, c5]; rfl
      · obtain ⟨c4, c5⟩ := at_cut_stop (t := t) (l := l) (by omega)
        rw [c5, List.append_nil] at h1
        rw [c4] at h2
        rw [h1, h2] at v7
        obtain ⟨gs, e8, q8⟩ := v7.r
        obtain ⟨n, st⟩ := v7.st
        walk_at "go"
        exact k g gs H7 n v7.hg v7.fr (st.same (hid_le fun b m => by simp [m])) e8 (ats_same q8 (hid_le fun b m => by
          rcases List.mem_cons.mp m with z | m
          · rw [z]; simp
          · exact List.mem_cons_of_mem _ (List.mem_cons_of_mem _ m))) v7.ng
theorem ok_indexes_of (T : Txt K mg)   {f : Addr} {fd : FuncData} (F : FnP K "_indexes_of" s_indexes_of f fd) : FnOk P w K mg base CX0 1 f fd ["rows", "name"] (sp_indexes_of K) := by
  refine F.ok sc_indexes_of (fun vs H Q E h => ?_) (fun cdv A outer s H vs Q E hr h => ?_)
  · obtain ⟨_, _, rfl, _⟩ := h
    rfl
  · have S := sc_indexes_of
    refine ⟨_, PSs.nox (pss_one (ps_ret (pe_lc (own := [("index", 2), ("row", 3)]) (g := gTup K 2 (gCons (gName 2) (gCons (gName 3) gNil))) rfl S.nd (pi_enum (by rfl) T.f_enumerate (pa_cons (pv 0) pa_nil)) (blkOk_by (N := N_indexes_of) (sc := defScope s_indexes_of) (by decide +kernel)) (fun _ _ _ _ _ => (pg_tupK (n := 2) K rfl (pgs_cons (pg_name (i := 2) S.nd rfl (by first | exact .inl rfl | exact .inr rfl)) (pgs_cons (pg_name (i := 3) S.nd rfl (by first | exact .inl rfl | exact .inr rfl)) pgs_nil)))) (fun _ _ _ _ _ => (pts_one (pt_cmpR op_eq (pe_ix (ixT K) (pv 3) pe_int (fun _ _ => rfl)) (pv 1) (nomark _)))) (fun _ _ _ _ _ => (pv 2))))), ?_⟩
    try dsimp only [cxOf, Cx.nox]
    obtain ⟨_, _, rfl, p, qs, l, nm, rfl, rfl, hp, hA, hl, k⟩ := h
    have la : qs.length = l.length := paired_len hA
    walk_at "go"
    intro D hD
    refine lc_relF (walk_enum (K := K) (xs := qs.map V.ref)) hD (by rw [List.length_map]; omega) (fun H1 s1 => s1.seq hp) (fun i => posP (isN nm) 0 (l.take i)) rfl (fun i hi => ?_) (fun b v _ => v = .int (b : Nat)) (fun _ _ _ _ h _ => h) (fun i y H1 H2 C E acc hi s1 e1 hy hC hE => ?_) (fun H1 us s1 e1 pr => ?_)
    · rw [pos_len]
      exact Nat.le_trans (List.length_filter_le ..) (by rw [List.length_take]; omega)
    · obtain ⟨T, x, y, rfl, hT, rfl, hx, hy⟩ := hy
      cases (Option.some.inj hx)
      have hy : (qs.map V.ref)[i]? = some y := hy
      rw [List.getElem?_map] at hy
      obtain ⟨q, hq, rfl⟩ := Option.map_eq_some_iff.mp hy
      obtain ⟨rr, hrr, vv, c, t1, t2, t3⟩ := paired_get hA i q hq
      have sT := same_new (o := .tup [.int (i : Nat), .ref q]) hT
      have t1 := sT _ _ (s1 _ _ t1)
      have pt := pos_take (p := isN nm) hrr
      walk_at "go"
      refine e_ixT (SqT.of t1) rfl ?_
      walk_at "go"
      refine i_d (fun z => ?_) (fun z => ?_)
      · walk_at "go"
        rw [if_pos (show isN nm rr = true from decide_eq_true z)] at pt
        exact hC i _ _ pt sT rfl
      · rw [if_neg (show ¬ isN nm rr = true from by unfold isN; simpa using z), List.append_nil] at pt
        exact hE _ pt sT
    · have e2 := prd_ints pr
      rw [List.length_map, la, List.take_length] at e2
      rw [e2] at e1
      walk_at "go"
      exact k D H1 hD s1 e1
theorem ok_bytes_of (T : Txt K mg)   {f : Addr} {fd : FuncData} (F : FnP K "_bytes_of" s_bytes_of f fd) : FnOk P w K mg base CX0 1 f fd ["rows"] (sp_bytes_of K) := by
  refine F.ok sc_bytes_of (fun vs H Q E h => ?_) (fun cdv A outer s H vs Q E hr h => ?_)
  · obtain ⟨_, rfl, _⟩ := h
    rfl
  · have S := sc_bytes_of
    refine ⟨_, PSs.nox (pss_one (ps_ret (pe_callB (cr_sum rfl) (by rfl) T.f_sum (by first | rfl | decide +kernel) (pa_cons (pe_lc (own := [("row", 1)]) (g := gName 1) (tt := tYes) rfl S.nd (pi_list (pv 0)) (blkOk_by (N := N_bytes_of) (sc := defScope s_bytes_of) (by decide +kernel)) (fun _ _ _ _ _ => (pg_name (i := 1) S.nd rfl (by first | exact .inl rfl | exact .inr rfl))) (fun _ _ _ _ _ => pts_nil) (fun _ _ _ _ _ => (pe_callB (lenSK K) (by rfl) T.f_len (by first | rfl | decide +kernel) (pa_cons (pe_ix (ixT K) (pv 1) pe_int (fun _ _ => rfl)) pa_nil)))) pa_nil)))), ?_⟩
    try dsimp only [cxOf, Cx.nox]
    obtain ⟨_, rfl, p, qs, l, rfl, hp, hA, hl, k⟩ := h
    have la : qs.length = l.length := paired_len hA
    walk_at "go"
    intro D hD
    refine lc_rel (walk_list (K := K) (xs := qs.map V.ref)) hD (by rw [List.length_map]; omega) (fun H1 s1 => s1.seq hp) (fun i v _ => ∃ r, l[i]? = some r ∧ v = .int (r.2.2.length : Nat)) (fun i v H1 H2 h s => h) (fun i y H1 H2 C E acc hi s1 e1 hy hC => ?_) (fun H1 us s1 e1 l1 hr => ?_)
    · obtain ⟨rfl, hx⟩ := hy
      rw [List.getElem?_map] at hx
      obtain ⟨q, hq, rfl⟩ := Option.map_eq_some_iff.mp hx
      obtain ⟨rr, hrr, vv, c, t1, t2, t3⟩ := paired_get hA i q hq
      have t1 := s1 _ _ t1
      have t3 := s1 _ _ t3
      walk_at "go"
      refine e_ixT (SqT.of t1) rfl ?_
      walk_at "go"
      rw [List.length_map]
      exact hC _ _ (Same.refl _) ⟨rr, hrr, rfl⟩
    · have e2 := rel_ints (l := l) (fun r => ((r.2.2.length : Nat) : Int)) (by rw [l1, List.length_map, la]) hr
      rw [e2] at e1
      walk_at "go"
      refine ⟨D, _, rfl, SqL.of e1, ?_⟩
      rw [sum_tot]
      walk_at "go"
      exact k H1 s1
theorem ok_let_go (T : Txt K mg)  (m_Store_attic : C8.Met P w K mg base 1 (He.ga K "Store") "attic" (sp_Store_attic K) []) (m_Store_attic_drop : C8.Met P w K mg base 2 (He.ga K "Store") "attic_drop" (sp_Store_attic_drop K) []) {f : Addr} {fd : FuncData} (F : FnP K "let_go" s_let_go f fd) : FnOk P w K mg base CX0 3 f fd ["store", "name", "vector"] (sp_let_go K) := by
  refine F.ok sc_let_go (fun vs H Q E h => ?_) (fun cdv A outer s H vs Q E hr h => ?_)
  · obtain ⟨_, _, _, rfl, _⟩ := h
    rfl
  · have S := sc_let_go
    refine ⟨_, PSs.nox (pss_cons (ps_setLc (i := 3) (own := [("index", 5), ("row", 6)]) (g := gTup K 2 (gCons (gName 5) (gCons (gName 6) gNil))) rfl S.nd rfl rfl (sw_true rfl rfl rfl (by decide +kernel)) (pi_enum (by rfl) T.f_enumerate (pa_cons (C8.pe_mt0 m_Store_attic hr (by decide) (pv 0)) pa_nil)) (blkOk_by (N := N_let_go) (sc := defScope s_let_go) (by decide +kernel)) (fun _ _ _ _ _ => (pg_tupK (n := 2) K rfl (pgs_cons (pg_name (i := 5) S.nd rfl (by first | exact .inl rfl | exact .inr rfl)) (pgs_cons (pg_name (i := 6) S.nd rfl (by first | exact .inl rfl | exact .inr rfl)) pgs_nil)))) (fun _ _ _ _ _ => (pts_one (pw_and (pt_cmpR op_eq (pe_ix (ixT K) (pv 6) pe_int (fun _ _ => rfl)) (pv 1) (nomark _)) (pw_and1 (pt_cmpR (ePK K hr.units) (pe_ix (ixT K) (pv 6) pe_int (fun _ _ => rfl)) (pv 2) (nomark _)))).pt)) (fun _ _ _ _ _ => (pv 5)))
    (pss_cons (ps_for PassesOwn.never rfl (pi_enum (by rfl) T.f_enumerate (pa_cons (pv 3) pa_nil)) (pg_tup rfl (pgs_cons (pg_name (i := 4) S.nd rfl (by first | exact .inl rfl | exact .inr rfl)) (pgs_cons (pg_name (i := 5) S.nd rfl (by first | exact .inl rfl | exact .inr rfl)) pgs_nil)))
    (pss_one (ps_expr (C8.pe_mt m_Store_attic_drop hr (by decide) (pv 0) (pa_cons (pe_op op_sub (pv 5) (pv 4)) pa_nil)))))
    (pss_one (ps_ret (pe_callB call_len_seq (by rfl) T.f_len (by first | rfl | decide +kernel) (pa_cons (pv 3) pa_nil)))))), ?_⟩
    try dsimp only [cxOf, Cx.nox]
    have st0 : STT K := ⟨T.cl_Store, T.no_Store__files, T.no_Store__temps, T.no_Store__attic, T.no_Store__log, T.no_Store__new_log, T.no_Store__budget, T.no_Store__done⟩
    obtain ⟨_, _, _, rfl, a, w, F, D, S, nm, vc, rfl, rfl, rfl, hA, hS, hV, hl, k⟩ := h
    walk_at "go"
    refine ⟨_, rfl, a, F, [], S, rfl, hS.sub, (fun _ m => by cases m), by omega, fun p qs H1 hp s1 e1 hQ => ?_⟩
    have lq : qs.length = S.at_.length := paired_len hQ
    have hA1 := ats_same hQ hid_sub
    have hV1 := hV.same s1
    walk_at "go"
    intro D2 hD2
    refine lc_relF (walk_enum (K := K) (xs := qs.map V.ref)) hD2 (by rw [List.length_map]; omega) (fun H2 s2 => s2.seq (SqL.of e1)) (fun i => posP (eqNV nm vc) 0 (S.at_.take i)) rfl (fun i hi => ?_) (fun b v _ => v = .int (b : Nat)) (fun _ _ _ _ h _ => h) (fun i y H2 H3 C E acc hi s2 e2 hy hC hE => ?_) (fun H2 us s2 e2 pr => ?_)
    · rw [pos_len]
      exact Nat.le_trans (List.length_filter_le ..) (by rw [List.length_take]; omega)
    · obtain ⟨T, x, y, rfl, hT, rfl, hx, hy⟩ := hy
      cases (Option.some.inj hx)
      have hy : (qs.map V.ref)[i]? = some y := hy
      rw [List.getElem?_map] at hy
      obtain ⟨q, hq, rfl⟩ := Option.map_eq_some_iff.mp hy
      obtain ⟨rr, hrr, vv, c, t1, t2, t3⟩ := paired_get hA1 i q hq
      have sT := same_new (o := .tup [.int (i : Nat), .ref q]) hT
      have t1 := sT _ _ (s2 _ _ t1)
      have t2 := (t2.same s2).same sT
      have hV3 := (hV1.same s2).same sT
      have pt := pos_take (p := eqNV nm vc) hrr
      walk_at "go"
      refine e_ixT (SqT.of t1) rfl ?_
      walk_at "go"
      refine i_d (fun z => ?_) (fun z => ?_)
      · walk_at "go"
        refine e_ixT (SqT.of t1) rfl ?_
        walk_at "go"
        refine e_eqPV (dp_vec t2) (dp_vec hV3) (by simp [PyData.plain, dv_plain]) (by simp [PyData.plain, dv_plain]) (by
          show PyData.depthAll (Dv _) + 1 ≤ 60
          have := dv_depth rr.2.1
          omega) rfl ?_
        walk_at "go"
        refine i_b (fun z2 => ?_) (fun z2 => ?_)
        · walk_at "go"
          rw [if_pos (show eqNV nm vc rr = true from by unfold eqNV; rw [decide_eq_true z, z2]; rfl)] at pt
          exact hC i _ _ pt sT rfl
        · rw [if_neg (show ¬ eqNV nm vc rr = true from by unfold eqNV; rw [z2]; simp), List.append_nil] at pt
          exact hE _ pt sT
      · walk_at "go"
        rw [if_neg (show ¬ eqNV nm vc rr = true from by unfold eqNV; rw [decide_eq_false z]; simp), List.append_nil] at pt
        exact hE _ pt sT
    have e3 := prd_ints pr
    rw [List.length_map, lq, List.take_length] at e3
    rw [e3] at e2
    have sA := s1.trans s2
    have nD2 : D2 ∉ F := (hS.same (hid_same s1)).new hD2
    walk_at "go"
    refine for_enumI (ns := (posP (eqNV nm vc) 0 S.at_).map fun i : Nat => (i : Int)) (fun pre σ H7 => (∃ v4 v5, σ = [some (.ref a), some (.str nm), some (.ref w), some (.ref D2), v4, v5, none]) ∧ Fr F H H7 ∧ H7 D2 = some (.lst (((posP (eqNV nm vc) 0 S.at_).map fun i : Nat => (i : Int)).map V.int)) ∧ ∃ n : Int, Sto K (hid D H7) F a { S with at_ := rmP (eqNV nm vc) pre.length S.at_, n := n }) ⟨⟨_, _, rfl⟩, Fr.of sA, e2, S.n, hS.same (hid_same sA)⟩ (fun pre σ H7 q => SqL.of q.2.2.1) (fun pre x post Ta σ H7 ens q hT => ?_) (fun σ H7 q => ?_)
    · obtain ⟨⟨v4, v5, rfl⟩, f7, e7, n, st⟩ := q
      have hxj : ((posP (eqNV nm vc) 0 S.at_).map fun i : Nat => (i : Int))[pre.length]? = some x := by rw [ens]; simp
      rw [List.getElem?_map] at hxj
      obtain ⟨ij, hij, rfl⟩ := Option.map_eq_some_iff.mp hxj
      obtain ⟨r, g1, g2, g3, g4, g5, g6, g7⟩ := rm_next hij
      have ex : ((ij : Nat) : Int) - (pre.length : Nat) = ((ij - pre.length : Nat) : Int) := by omega
      have sT := same_new (o := .tup [.int (pre.length : Nat), .int (ij : Nat)]) hT
      have hl7 := rmP_len (eqNV nm vc) S.at_ pre.length
      have hlt := (List.getElem?_eq_some_iff.mp g2).1
      have st := st.same (hid_same sT)
      have hS7 := st.sub
      have hA7 : Al D _ := (hA.fr hS f7).same sT
      walk_at "go"
      refine ⟨_, _, rfl, a, F, D, _, ij - pre.length, rfl, congrArg V.int ex, hA7, st, by show (rmP (eqNV nm vc) pre.length S.at_).length ≤ 1000; omega, hlt, fun H8 f8 s8 => ?_⟩
      refine ⟨⟨_, _, rfl⟩, (f7.same sT).trans f8, f8 _ _ nD2 (sT _ _ e7), n + 1, ?_⟩
      rw [List.length_append, List.length_singleton, g4]
      exact s8
    · obtain ⟨⟨v4, v5, rfl⟩, f7, e7, n, st⟩ := q
      walk_at "go"
      rw [List.length_map, List.length_map, pos_len]
      rw [List.length_map, pos_len, rmP_all] at st
      exact k H7 n f7 st
theorem ok_kept (T : Txt K mg)  (m_Store_attic : C8.Met P w K mg base 1 (He.ga K "Store") "attic" (sp_Store_attic K) []) {f : Addr} {fd : FuncData} (F : FnP K "kept" s_kept f fd) : FnOk P w K mg base CX0 2 f fd ["store", "name"] (sp_kept K) := by
  refine F.ok sc_kept (fun vs H Q E h => ?_) (fun cdv A outer s H vs Q E hr h => ?_)
  · obtain ⟨_, _, rfl, _⟩ := h
    rfl
  · have S := sc_kept
    refine ⟨_, PSs.nox (pss_one (ps_ret (pe_lc (own := [("row", 2)]) (g := gName 2) rfl S.nd (pi_list (C8.pe_mt0 m_Store_attic hr (by decide) (pv 0))) (blkOk_by (N := N_kept) (sc := defScope s_kept) (by decide +kernel)) (fun _ _ _ _ _ => (pg_name (i := 2) S.nd rfl (by first | exact .inl rfl | exact .inr rfl))) (fun _ _ _ _ _ => (pts_one (pt_cmpR op_eq (pe_ix (ixT K) (pv 2) pe_int (fun _ _ => rfl)) (pv 1) (nomark _)))) (fun _ _ _ _ _ => (pe_tup (pa_cons (pe_ix (ixT K) (pv 2) pe_int (fun _ _ => rfl)) (pa_cons (pe_ix (ixT K) (pv 2) pe_int (fun _ _ => rfl)) pa_nil))))))), ?_⟩
    try dsimp only [cxOf, Cx.nox]
    have st0 : STT K := ⟨T.cl_Store, T.no_Store__files, T.no_Store__temps, T.no_Store__attic, T.no_Store__log, T.no_Store__new_log, T.no_Store__budget, T.no_Store__done⟩
    obtain ⟨_, _, rfl, a, F, S, nm, rfl, rfl, hS, hl, k⟩ := h
    walk_at "go"
    refine ⟨_, rfl, a, F, [], S, rfl, hS, (fun _ m => by cases m), hl, fun p qs H1 hp s1 e1 hQ => ?_⟩
    have hA := ats_same hQ hid_sub
    have la : qs.length = S.at_.length := paired_len hA
    walk_at "go"
    intro D hD
    refine lc_relF (walk_list (K := K) (xs := qs.map V.ref)) hD (by rw [List.length_map]; omega) (fun H2 s2 => s2.seq (SqL.of e1)) (fun i => (S.at_.take i).filter (isN nm)) rfl (fun i hi => Nat.le_trans (List.length_filter_le ..) (by rw [List.length_take]; omega)) (fun r v H2 => ∃ q, v = .ref q ∧ KpA K H2 q r) (fun r v H2 H3 h s => ?_) (fun i y H2 H3 C E acc hi s2 e2 hy hC hE => ?_) (fun H2 us s2 e2 pr => ?_)
    · obtain ⟨q, h1, v, l, h2, h3, h4⟩ := h
      exact ⟨q, h1, v, l, s _ _ h2, h3.same s, s _ _ h4⟩
    · obtain ⟨rfl, hx⟩ := hy
      rw [List.getElem?_map] at hx
      obtain ⟨q, hq, rfl⟩ := Option.map_eq_some_iff.mp hx
      obtain ⟨rr, hrr, vv, c, t1, t2, t3⟩ := paired_get hA i q hq
      have t1' := s2 _ _ t1
      have pt := filt_take (p := isN nm) hrr
      walk_at "go"
      refine e_ixT (SqT.of t1') rfl ?_
      walk_at "go"
      refine i_d (fun z => ?_) (fun z => ?_)
      · walk_at "go"
        refine e_ixT (SqT.of t1') rfl ?_
        walk_at "go"
        refine e_ixT (SqT.of t1') rfl ?_
        walk_at "go"
        rename_i u hu
        rw [if_pos (show isN nm rr = true from decide_eq_true z)] at pt
        have su := same_new (o := .tup [.ref vv, .ref c]) hu
        refine hC rr _ _ pt su ⟨u, rfl, vv, c, ?_, ?_, ?_⟩
        · rw [hid_at fun m => by rw [List.mem_singleton.mp m, e2] at hu; cases hu]
          exact upd_same
        · exact t2.same (same_hidN hD (s2.trans su))
        · exact same_hidN hD (s2.trans su) _ _ t3
      · rw [if_neg (show ¬ isN nm rr = true from by unfold isN; simpa using z), List.append_nil] at pt
        exact hE _ pt (Same.refl _)
    · obtain ⟨ps, rfl⟩ := all_refs us fun u m => by
        obtain ⟨i, hi⟩ := List.getElem?_of_mem m
        obtain ⟨r, _, q, e, _⟩ := paired_get pr i u hi
        exact ⟨q, e⟩
      rw [List.length_map, la, List.take_length] at pr
      walk_at "go"
      refine k D ps H2 (s1.free hD) (s1.trans s2) e2 (prd_mk (by have := paired_len pr; rw [List.length_map] at this; exact this) fun i q r h1 h2 => ?_)
      obtain ⟨r2, h3, q2, e3, v, l, e4, e5, e6⟩ := paired_get pr i (.ref q) (by rw [List.getElem?_map, h1]; rfl)
      cases e3
      rw [h2] at h3
      cases h3
      exact ⟨v, l, hid_sub _ _ e4, e5.same hid_sub, hid_sub _ _ e6⟩
theorem ok_size_of (T : Txt K mg)  (c_bytes_of : Cal P w K mg base 1 "_bytes_of" (sp_bytes_of K)) (m_Store_attic : C8.Met P w K mg base 1 (He.ga K "Store") "attic" (sp_Store_attic K) []) {f : Addr} {fd : FuncData} (F : FnP K "size_of" s_size_of f fd) : FnOk P w K mg base CX0 2 f fd ["store"] (sp_size_of K) := by
  refine F.ok sc_size_of (fun vs H Q E h => ?_) (fun cdv A outer s H vs Q E hr h => ?_)
  · obtain ⟨_, rfl, _⟩ := h
    rfl
  · have S := sc_size_of
    refine ⟨_, PSs.nox (pss_one (ps_ret (pe_c c_bytes_of hr (by decide) (by rfl) (pa_cons (C8.pe_mt0 m_Store_attic hr (by decide) (pv 0)) pa_nil)))), ?_⟩
    try dsimp only [cxOf, Cx.nox]
    have st0 : STT K := ⟨T.cl_Store, T.no_Store__files, T.no_Store__temps, T.no_Store__attic, T.no_Store__log, T.no_Store__new_log, T.no_Store__budget, T.no_Store__done⟩
    obtain ⟨_, rfl, a, F, S, rfl, hS, hl, k⟩ := h
    walk_at "go"
    refine ⟨_, rfl, a, F, [], S, rfl, hS, (fun _ m => by cases m), hl, fun p qs H1 hp s1 e1 hQ => ?_⟩
    walk_at "go"
    refine ⟨_, rfl, p, qs, _, rfl, SqL.of e1, ats_same hQ hid_sub, hl, fun H2 s2 => ?_⟩
    walk_at "go"
    exact k H2 (s1.trans s2)
theorem ok_Store___init__ (T : Txt K mg)   {f : Addr} {fd : FuncData} (F : FunD K "__init__" "Store.__init__" (defArgs s_Store___init__) (defBody s_Store___init__) (defScope s_Store___init__) [] [] f fd) : FnOk P w K mg base CX0 1 f fd ["self", "files", "log"] (sp_Store___init__ K) := by
  refine F.ok sc_Store___init__ (fun vs H Q E h => ?_) (fun cdv A outer s H vs Q E hr h => ?_)
  · obtain ⟨_, _, _, rfl, _⟩ := h
    rfl
  · have S := sc_Store___init__
    refine ⟨_, PSs.nox (pss_cons (ps_fld (pv 0) (pe_lock (pe_dc (own := [("name", 3), ("content", 4), ("time", 5)]) (g := gTup K 2 (gCons (gName 3) (gCons (gTup K 2 (gCons (gName 4) (gCons (gName 5) gNil))) gNil))) (tt := tYes) rfl S.nd (pi_items (pv 1)) (blkOk_by (N := N_Store___init__) (sc := defScope s_Store___init__) (by decide +kernel)) (fun _ _ _ _ _ => (pg_tupK (n := 2) K rfl (pgs_cons (pg_name (i := 3) S.nd rfl (by first | exact .inl rfl | exact .inr rfl)) (pgs_cons (pg_tupK (n := 2) K rfl (pgs_cons (pg_name (i := 4) S.nd rfl (by first | exact .inl rfl | exact .inr rfl)) (pgs_cons (pg_name (i := 5) S.nd rfl (by first | exact .inl rfl | exact .inr rfl)) pgs_nil))) pgs_nil)))) (fun _ _ _ _ _ => pts_nil) (fun _ _ _ _ _ => (pv 3)) (fun _ _ _ _ _ => (pe_tup (pa_cons (pe_callTy (lstOK K) (by rfl) T.f_list (by first | rfl | decide +kernel) (pa_cons (pv 4) pa_nil)) (pa_cons (pv 5) pa_nil)))))) rfl)
    (pss_cons (ps_fld (pv 0) pe_dnewK rfl)
    (pss_cons (ps_fld (pv 0) (pe_lst pa_nil) rfl)
    (pss_cons (ps_fld (pv 0) (pe_callTy call_list_of (by rfl) T.f_list (by first | rfl | decide +kernel) (pa_cons (pv 2) pa_nil)) rfl)
    (pss_cons (ps_fld (pv 0) (pe_lst pa_nil) rfl)
    (pss_cons (ps_fld (pv 0) pe_non rfl)
    (pss_one (ps_fld (pv 0) pe_int rfl)))))))), ?_⟩
    try dsimp only [cxOf, Cx.nox]
    have st0 : STT K := ⟨T.cl_Store, T.no_Store__files, T.no_Store__temps, T.no_Store__attic, T.no_Store__log, T.no_Store__new_log, T.no_Store__budget, T.no_Store__done⟩
    obtain ⟨_, _, _, rfl, a, d0, lg, dx, w0, fl, D, rfl, rfl, rfl, hi, hd, hfl, hnd, hlen, hlg, hA, k⟩ := h
    walk_at "go"
    refine ⟨d0, _, hd, trivial, fun od => ?_⟩
    walk_at "go"
    refine ⟨d0, od, dct w0, rfl, upd_same, fun Dn hDn => ?_⟩
    have nd0 : Dn ≠ d0 := fun z => by rw [z, upd_same] at hDn; cases hDn
    have hDn0 : H Dn = none := by rwa [upd_ne nd0] at hDn
    have lw : w0.length = fl.length := paired_len hfl
    have ad0 : a ≠ d0 := fun z => by rw [z, hd] at hi; cases hi
    have hA0 : Al D (upd H d0 (.frz od (.dK (dct w0)))) := fun d m => by
      obtain ⟨xs, e⟩ := hA d m
      exact ⟨xs, by rw [upd_ne fun z => by rw [z, hd] at e; cases e]; exact e⟩
    refine dc_it walk_items (fun i H1 => Same (upd H d0 (.frz od (.dK (dct w0)))) H1 ∧ ∃ w1, H1 Dn = some (.dK (dct w1)) ∧ Fls (hid (Dn :: D) H1) w1 (fl.take i)) ⟨same_new hDn, [], upd_same, .nil⟩ (fun i H1 _ p => p.1 _ _ upd_same) (fun i x H1 H2 hi2 p hy => ?_) (fun H1 p => ?_)
    · obtain ⟨s1, w1, e1, q1⟩ := p
      obtain ⟨t0, kx, vx, rfl, ht0, rfl, hkx, hvx⟩ := hy
      have hi3 : i < w0.length := by
        unfold dct at hi2
        rwa [List.length_map] at hi2
      have hw := List.getElem?_eq_getElem hi3
      obtain ⟨r, hr, hrn, l, g1, g2⟩ := paired_get hfl i _ hw
      have hk : kx = .str r.1 ∧ vx = .ref w0[i].2 := by
        have hkx : (dct w0)[i]?.map (fun kv => kV kv.1) = some kx := hkx
        have hvx : (dct w0)[i]?.map Prod.snd = some vx := hvx
        unfold dct at hkx hvx
        rw [List.getElem?_map, hw] at hkx hvx
        cases hkx
        cases hvx
        rw [← hrn]
        exact ⟨rfl, rfl⟩
      obtain ⟨rfl, rfl⟩ := hk
      have nq : ∀ {y : Addr} {o : HO}, H y = some o → y ≠ d0 → H1 y = some o := fun h n => s1 _ _ (by rw [upd_ne n]; exact h)
      have g1 := nq g1 (fun z => by rw [z, hd] at g1; cases g1)
      have g2 := nq g2 (fun z => by rw [z, hd] at g2; cases g2)
      have st := same_new (o := .tup [.str r.1, .ref w0[i].2]) ht0
      have g1 := st _ _ g1
      have g2 := st _ _ g2
      walk_at "go"
      intro l2 hl2
      walk_at "go"
      rename_i t ht3
      have s2 := same_new (o := .lst (r.2.1.map V.int)) hl2
      have s3 := same_new (o := .tup [.ref l2, .int r.2.2]) ht3
      have sA := (st.trans s2).trans s3
      have hA1 := hA0.same s1
      have hD1 := same_new (o := .tup [.str r.1, .ref w0[i].2]) ht0
      have nm0 : lk r.1 (fl.take i) = none := lk_none fun m => by
        have hri := (List.getElem?_eq_some_iff.mp hr)
        rw [← List.take_append_drop i fl, List.map_append] at hnd
        have hd2 := List.nodup_append.mp hnd
        refine hd2.2.2 _ m r.1 ?_ rfl
        rw [List.drop_eq_getElem_cons hri.1, hri.2]
        exact List.mem_cons_self ..
      have vn : valV (dct w1) (Sum.inr r.1) = none := by
        rcases val_dct (R := FilA (hid (Dn :: D) H1)) r.1 q1 with ⟨h1, _⟩ | ⟨_, _, _, h2, _⟩
        · exact h1
        · rw [nm0] at h2; cases h2
      have lw1 : w1.length ≤ 100 := by
        have := paired_len q1
        rw [List.length_take] at this
        omega
      refine ⟨dct w1, Sum.inr r.1, rfl, sA _ _ e1, ?_, Same.mut (s1.trans sA) hDn, w1 ++ [(r.1, t)], ?_, ?_⟩
      · unfold dct
        rw [List.length_map]
        exact Nat.lt_of_le_of_lt (by omega : _ ≤ 100) (by decide)
      · rw [upd_same, putK_new _ vn]
        unfold dct
        rw [List.map_append]
        rfl
      · rw [hid_upd_in (List.mem_cons_self ..)]
        have s4 : Same (hid (Dn :: D) H1) (hid (Dn :: D) (upd (upd (upd H1 t0 (.tup [.str r.1, .ref w0[i].2])) l2 (.lst (r.2.1.map V.int))) t (.tup [.ref l2, .int r.2.2]))) := hid_same sA
        have etk : fl.take (i + 1) = fl.take i ++ [r] := by rw [List.take_add_one, hr]; rfl
        rw [etk]
        have fresh : ∀ {y : Addr}, H1 y = none → y ∉ Dn :: D := fun h m => by
          rcases List.mem_cons.mp m with z | m
          · rw [z, e1] at h; cases h
          · exact hA1.free h m
        have l2n : H1 l2 = none := st.free hl2
        have tn : H1 t = none := (st.trans s2).free ht3
        exact Paired.snoc (fls_same q1 s4) ⟨rfl, l2, by rw [hid_at (fresh tn), upd_same], by rw [hid_at (fresh l2n)]; exact s3 _ _ upd_same⟩
    · obtain ⟨s1, w1, e1, q1⟩ := p
      have hl0 : (dct w0).length = fl.length := by
        unfold dct
        rw [List.length_map, lw]
      rw [hl0, List.take_length] at q1
      have fz := s1 _ _ upd_same
      have f0 : Fr [a] H (upd H1 d0 (.dK (dct w0))) := fun y o _ e => by
        by_cases z : y = d0
        · rw [z, upd_same, ← hd, ← z, e]
        · rw [upd_ne z]
          exact s1 _ _ (by rw [upd_ne z]; exact e)
      have i0 : upd H1 d0 (.dK (dct w0)) a = some (.ins (cSto K) dx []) := by
        rw [upd_ne ad0]
        exact s1 _ _ (by rw [upd_ne ad0]; exact hi)
      have e0 : upd H1 d0 (.dK (dct w0)) Dn = some (.dK (dct w1)) := by rw [upd_ne nd0]; exact e1
      have g0 : ∀ x o, x ≠ d0 → H1 x = some o → upd H1 d0 (.dK (dct w0)) x = some o := fun x o n e => by rw [upd_ne n]; exact e
      refine ⟨fz, ?_⟩
      walk_at "go"
      have ma : a ∈ [a] := List.mem_cons_self ..
      have nla : ∀ d ∈ [a], NL H d := fun d m => by rw [List.mem_singleton.mp m]; exact nl_ins hi
      generalize upd H1 d0 (.dK (dct w0)) = G0 at f0 i0 e0 g0 ⊢
      refine ⟨a, _, dx, _, rfl, i0, st0.cl, st0.n1, by decide, ?_⟩
      walk_at "go"
      refine e_dnewK fun td htd => ?_
      have fT : Fr [a] G0 (upd (upd G0 a (.ins (cSto K) dx (putF "_files" (.ref Dn) []))) td (.dK [])) := ((Fr.refl [a] G0).put ma).same (same_new htd)
      obtain ⟨ntd, zT⟩ := upd_none htd
      have iT : upd (upd G0 a (.ins (cSto K) dx (putF "_files" (.ref Dn) []))) td (.dK []) a = some (.ins (cSto K) dx (putF "_files" (.ref Dn) [])) := by rw [upd_ne (Ne.symm ntd)]; exact upd_same
      have eT : upd (upd G0 a (.ins (cSto K) dx (putF "_files" (.ref Dn) []))) td (.dK []) td = some (.dK []) := upd_same
      generalize upd (upd G0 a (.ins (cSto K) dx (putF "_files" (.ref Dn) []))) td (.dK []) = G1 at fT iT eT ⊢
      walk_at "go"
      refine ⟨a, _, dx, _, rfl, iT, st0.cl, st0.n2, lt_put (Nat.le_trans (len_put (n := 0) (Nat.le_refl 0)) (by decide)), ?_⟩
      walk_at "go"
      rename_i ad had
      have fD : Fr [a] G1 (upd (upd G1 a (.ins (cSto K) dx (putF "_temps" (.ref td) (putF "_files" (.ref Dn) [])))) ad (.lst [])) := ((Fr.refl [a] G1).put ma).same (same_new had)
      obtain ⟨nad, zD⟩ := upd_none had
      have iD : upd (upd G1 a (.ins (cSto K) dx (putF "_temps" (.ref td) (putF "_files" (.ref Dn) [])))) ad (.lst []) a = some (.ins (cSto K) dx (putF "_temps" (.ref td) (putF "_files" (.ref Dn) []))) := by rw [upd_ne (Ne.symm nad)]; exact upd_same
      have eD : upd (upd G1 a (.ins (cSto K) dx (putF "_temps" (.ref td) (putF "_files" (.ref Dn) [])))) ad (.lst []) ad = some (.lst []) := upd_same
      generalize upd (upd G1 a (.ins (cSto K) dx (putF "_temps" (.ref td) (putF "_files" (.ref Dn) [])))) ad (.lst []) = G2 at fD iD eD ⊢
      refine ⟨a, _, dx, _, rfl, iD, st0.cl, st0.n3, lt_put (Nat.le_trans (len_put (len_put (n := 0) (Nat.le_refl 0))) (by decide)), ?_⟩
      walk_at "go"
      refine ⟨lg, [], rfl, .inl (seq_fr hlg (((f0.trans fT).trans fD).put ma) nla), fun ld hld => ?_⟩
      have fL : Fr [a] G2 (upd (upd G2 a (.ins (cSto K) dx (putF "_attic" (.ref ad) (putF "_temps" (.ref td) (putF "_files" (.ref Dn) []))))) ld (.lst [])) := ((Fr.refl [a] G2).put ma).same (same_new hld)
      obtain ⟨nld, zL⟩ := upd_none hld
      have iL : upd (upd G2 a (.ins (cSto K) dx (putF "_attic" (.ref ad) (putF "_temps" (.ref td) (putF "_files" (.ref Dn) []))))) ld (.lst []) a = some (.ins (cSto K) dx (putF "_attic" (.ref ad) (putF "_temps" (.ref td) (putF "_files" (.ref Dn) [])))) := by rw [upd_ne (Ne.symm nld)]; exact upd_same
      have eL : upd (upd G2 a (.ins (cSto K) dx (putF "_attic" (.ref ad) (putF "_temps" (.ref td) (putF "_files" (.ref Dn) []))))) ld (.lst []) ld = some (.lst []) := upd_same
      generalize upd (upd G2 a (.ins (cSto K) dx (putF "_attic" (.ref ad) (putF "_temps" (.ref td) (putF "_files" (.ref Dn) []))))) ld (.lst []) = G3 at fL iL eL ⊢
      walk_at "go"
      refine ⟨a, _, dx, _, rfl, iL, st0.cl, st0.n4, lt_put (Nat.le_trans (len_put (len_put (len_put (n := 0) (Nat.le_refl 0)))) (by decide)), ?_⟩
      walk_at "go"
      rename_i nd hnd2
      have fN : Fr [a] G3 (upd (upd G3 a (.ins (cSto K) dx (putF "_log" (.ref ld) (putF "_attic" (.ref ad) (putF "_temps" (.ref td) (putF "_files" (.ref Dn) [])))))) nd (.lst [])) := ((Fr.refl [a] G3).put ma).same (same_new hnd2)
      obtain ⟨nnd, zN⟩ := upd_none hnd2
      have iN : upd (upd G3 a (.ins (cSto K) dx (putF "_log" (.ref ld) (putF "_attic" (.ref ad) (putF "_temps" (.ref td) (putF "_files" (.ref Dn) [])))))) nd (.lst []) a = some (.ins (cSto K) dx (putF "_log" (.ref ld) (putF "_attic" (.ref ad) (putF "_temps" (.ref td) (putF "_files" (.ref Dn) []))))) := by rw [upd_ne (Ne.symm nnd)]; exact upd_same
      have eN : upd (upd G3 a (.ins (cSto K) dx (putF "_log" (.ref ld) (putF "_attic" (.ref ad) (putF "_temps" (.ref td) (putF "_files" (.ref Dn) [])))))) nd (.lst []) nd = some (.lst []) := upd_same
      generalize upd (upd G3 a (.ins (cSto K) dx (putF "_log" (.ref ld) (putF "_attic" (.ref ad) (putF "_temps" (.ref td) (putF "_files" (.ref Dn) [])))))) nd (.lst []) = G4 at fN iN eN ⊢
      refine ⟨a, _, dx, _, rfl, iN, st0.cl, st0.n5, lt_put (Nat.le_trans (len_put (len_put (len_put (len_put (n := 0) (Nat.le_refl 0))))) (by decide)), ?_⟩
      walk_at "go"
      refine ⟨a, _, dx, _, rfl, upd_same, st0.cl, st0.n6, lt_put (Nat.le_trans (len_put (len_put (len_put (len_put (len_put (n := 0) (Nat.le_refl 0)))))) (by decide)), ?_⟩
      walk_at "go"
      refine ⟨a, _, dx, _, rfl, upd_same, st0.cl, st0.n7, lt_put (Nat.le_trans (len_put (len_put (len_put (len_put (len_put (len_put (n := 0) (Nat.le_refl 0))))))) (by decide)), ?_⟩
      walk_at "go"
      simp only [upd_upd]
      have sa : ∀ {p : Addr}, p ≠ a → p ∉ [a] := fun n m => n (List.mem_singleton.mp m)
      have nDa : Dn ≠ a := fun z => by rw [z, i0] at e0; cases e0
      -- what stands at the end
      have F4 := (Fr.refl [a] G4).put (o := .ins (cSto K) dx (putF "_done" (.int 0) (putF "_budget" .non (putF "_new_log" (.ref nd) (putF "_log" (.ref ld) (putF "_attic" (.ref ad) (putF "_temps" (.ref td) (putF "_files" (.ref Dn) [])))))))) ma
      have F3 := fN.trans F4
      have F2 := fL.trans F3
      have F1 := fD.trans F2
      have F0 := fT.trans F1
      generalize hfs : putF "_done" (.int 0) (putF "_budget" .non (putF "_new_log" (.ref nd) (putF "_log" (.ref ld) (putF "_attic" (.ref ad) (putF "_temps" (.ref td) (putF "_files" (.ref Dn) [])))))) = fs at F4 F3 F2 F1 F0 ⊢
      generalize hG5 : upd G4 a (.ins (cSto K) dx fs) = G5 at F4 F3 F2 F1 F0 ⊢
      have i5 : G5 a = some (.ins (cSto K) dx fs) := by rw [← hG5]; exact upd_same
      have eDn := F0 _ _ (sa nDa) e0
      have etd := F1 _ _ (sa ntd) eT
      have ead := F2 _ _ (sa nad) eD
      have eld := F3 _ _ (sa nld) eL
      have end_ := F4 _ _ (sa nnd) eN
      have z0 : ∀ {p : Addr}, p ≠ a → G0 p = none → H p = none := fun n h => fr_back f0 (sa n) h
      have zD0 := fr_back fT (sa nad) zD
      have zL0 := fr_back fT (sa nld) (fr_back fD (sa nld) zL)
      have zN0 := fr_back fT (sa nnd) (fr_back fD (sa nnd) (fr_back fL (sa nnd) zN))
      have aD : a ∉ D := fun m => by
        obtain ⟨xs, e⟩ := hA a m
        rw [hi] at e; cases e
      have nD : ∀ {p : Addr}, p ≠ a → G0 p = none → p ∉ D := fun n h => hA.free (z0 n h)
      have DnD : Dn ∉ D := hA.free hDn0
      -- their differences
      have d1 : td ≠ Dn := fun z => by rw [z, e0] at zT; cases zT
      have d2 : ad ≠ Dn := fun z => by rw [z, e0] at zD0; cases zD0
      have d3 : ad ≠ td := fun z => by rw [z, eT] at zD; cases zD
      have d4 : ld ≠ Dn := fun z => by rw [z, e0] at zL0; cases zL0
      have d5 : ld ≠ td := fun z => by rw [z, fD _ _ (sa ntd) eT] at zL; cases zL
      have d6 : ld ≠ ad := fun z => by rw [z, eD] at zL; cases zL
      have d7 : nd ≠ Dn := fun z => by rw [z, e0] at zN0; cases zN0
      have d8 : nd ≠ td := fun z => by rw [z, fL _ _ (sa ntd) (fD _ _ (sa ntd) eT)] at zN; cases zN
      have d9 : nd ≠ ad := fun z => by rw [z, fL _ _ (sa nad) eD] at zN; cases zN
      have keep : ∀ (y : Addr) (o : HO), (∀ C e fs, o ≠ .ins C e fs) → (∀ c o2, o ≠ .frz c o2) → hid (Dn :: D) H1 y = some o → hid (foot a Dn td ad []) (hid D G5) y = some o := fun y o no1 no2 h => by
        obtain ⟨n, h⟩ := hid_some h
        have n1 : y ∉ D := fun m => n (List.mem_cons_of_mem _ m)
        have n2 : y ≠ Dn := fun z => n (by rw [z]; exact List.mem_cons_self ..)
        have n3 : y ≠ d0 := fun z => by rw [z, fz] at h; cases h; exact no2 _ _ rfl
        have h0 := g0 y o n3 h
        have n4 : y ≠ a := fun z => by rw [z, i0] at h0; cases h0; exact no1 _ _ _ rfl
        have n5 : y ≠ td := fun z => by rw [z, zT] at h0; cases h0
        have n6 : y ≠ ad := fun z => by rw [z, zD0] at h0; cases h0
        rw [hid_at (by simp [foot, n2, n4, n5, n6]), hid_at n1]
        exact F0 _ _ (sa n4) h0
      refine k (foot a Dn td ad []) G5 (fun b nb o e => F0 _ _ (sa nb) (f0 _ _ (sa nb) e)) (fun b m => ?_) ⟨dx, Dn, td, ad, ld, nd, fs, w1, [], [], rfl, ?_⟩
      · simp only [foot, List.mem_cons, List.map_nil, List.not_mem_nil, or_false] at m
        rcases m with z | z | z | z
        · exact .inl z
        · rw [z]; exact .inr hDn0
        · rw [z]; exact .inr (z0 ntd zT)
        · rw [z]; exact .inr (z0 nad zD0)
      · refine ⟨by rw [hid_at aD]; exact i5, ?_, ?_, ?_, ?_, ?_, ?_, ?_, ?_, fun m hm => ?_, by rw [hid_at DnD]; exact eDn, by rw [hid_at (nD ntd zT)]; exact etd, by rw [hid_at (nD nad zD0)]; exact ead, ?_, .nil, .nil, ?_, ?_, ?_, hnd, by simp⟩
        · rw [← hfs]
          exact len_put (len_put (len_put (len_put (len_put (len_put (len_put (n := 1) (by decide)))))))
        · rw [← hfs]; simp only [lookup_putF]; rfl
        · rw [← hfs]; simp only [lookup_putF]; rfl
        · rw [← hfs]; simp only [lookup_putF]; rfl
        · rw [← hfs]; simp only [lookup_putF]; rfl
        · rw [← hfs]; simp only [lookup_putF]; rfl
        · rw [← hfs]; simp only [lookup_putF]; rfl
        · rw [← hfs]; simp only [lookup_putF]; rfl
        · simp only [List.mem_cons, not_or] at hm
          obtain ⟨m1, m2, m3, m4, m5, m6, m7, _⟩ := hm
          rw [← hfs]
          simp only [lookup_putF]
          rw [if_neg m7, if_neg m6, if_neg m5, if_neg m4, if_neg m3, if_neg m2, if_neg m1]
          rfl
        · exact paired_imp (fun x r q => ⟨q.1, by
            obtain ⟨l, h1, h2⟩ := q.2
            exact ⟨l, keep _ _ (by intros; exact fun z => by cases z) (by intros; exact fun z => by cases z) h1, keep _ _ (by intros; exact fun z => by cases z) (by intros; exact fun z => by cases z) h2⟩⟩) q1
        · rw [hid_at (by simp [foot, nld, d4, d5, d6]), hid_at (nD nld zL0)]; exact eld
        · rw [hid_at (by simp [foot, nnd, d7, d8, d9]), hid_at (nD nnd zN0)]; exact end_
        · simp [foot, Ne.symm nDa, Ne.symm ntd, Ne.symm nad, Ne.symm d1, Ne.symm d2, Ne.symm d3]
theorem ok_Store__count_write (T : Txt K mg)   {f : Addr} {fd : FuncData} (F : FunD K "_count_write" "Store._count_write" (defArgs s_Store__count_write) (defBody s_Store__count_write) (defScope s_Store__count_write) [] [] f fd) : FnOk P w K mg base CX0 1 f fd ["self"] (sp_Store__count_write K) := by
  refine F.ok sc_Store__count_write (fun vs H Q E h => ?_) (fun cdv A outer s H vs Q E hr h => ?_)
  · obtain ⟨_, rfl, _⟩ := h
    rfl
  · have S := sc_Store__count_write
    refine ⟨_, PSs.nox (C8.pss_cut (ps_if (pt_cmpR op_notN (pe_fld (pv 0) rfl) pe_non (nomark _))
    (pss_cons (ps_if (pt_cmpR op_le (pe_fld (pv 0) rfl) pe_int (nomark _))
      (pss_one ps_never)
      pss_nil)
      (pss_one (ps_fldaug (pv 0) pe_int in_sub)))
    pss_nil)
    (pss_one (ps_fldaug (pv 0) pe_int in_add))), ?_⟩
    try dsimp only [cxOf, Cx.nox]
    have st0 : STT K := ⟨T.cl_Store, T.no_Store__files, T.no_Store__temps, T.no_Store__attic, T.no_Store__log, T.no_Store__new_log, T.no_Store__budget, T.no_Store__done⟩
    obtain ⟨_, rfl, a, F, D, S, rfl, hA, hS, k⟩ := h
    obtain ⟨dx, fd, td, ad, ld, nd, fs, fw, tw, aq, rfl, x0⟩ := id hS
    have x := x0.same hid_sub
    have na : a ∉ D := fun m => hS.notin m (List.mem_cons_self ..)
    refine e_cut (Mid := fun σ' H' => σ' = [some (.ref a)] ∧ H' = H) ?_ ?_
    · walk_at "go"
      refine ⟨rfl, ?_⟩
      walk_at "go"
      refine i_nd (fun z => absurd rfl z) (fun _ => ?_)
      walk_at "go"
      exact ⟨rfl, rfl⟩
    rintro σ' H' ⟨rfl, rfl⟩
    walk_at "go"
    refine ⟨a, _, dx, fs, _, rfl, x.ins, st0.cl, st0.n7, x.l7, ?_⟩
    walk_at "go"
    refine ⟨_, _, rfl, rfl, ?_⟩
    walk_at "go"
    refine ⟨dx, fs, x.ins, Nat.lt_of_le_of_lt x.len (by decide), ?_⟩
    have c := x0.count (S.n + 1)
    rw [← hid_upd na] at c
    refine k _ ?_ ⟨dx, fd, td, ad, ld, nd, _, fw, tw, aq, rfl, c⟩
    exact (Fr.refl _ _).put (List.mem_cons_self ..)
theorem ok_Store_attic (T : Txt K mg)   {f : Addr} {fd : FuncData} (F : FunD K "attic" "Store.attic" (defArgs s_Store_attic) (defBody s_Store_attic) (defScope s_Store_attic) [] [] f fd) : FnOk P w K mg base CX0 1 f fd ["self"] (sp_Store_attic K) := by
  refine F.ok sc_Store_attic (fun vs H Q E h => ?_) (fun cdv A outer s H vs Q E hr h => ?_)
  · obtain ⟨_, rfl, _⟩ := h
    rfl
  · have S := sc_Store_attic
    refine ⟨_, PSs.nox (pss_one (ps_ret (pe_lc (own := [("name", 1), ("vector", 2), ("content", 3)]) (g := gTup K 3 (gCons (gName 1) (gCons (gName 2) (gCons (gName 3) gNil)))) (tt := tYes) rfl S.nd (pi_list (pe_fld (pv 0) rfl)) (blkOk_by (N := N_Store_attic) (sc := defScope s_Store_attic) (by decide +kernel)) (fun _ _ _ _ _ => (pg_tupK (n := 3) K rfl (pgs_cons (pg_name (i := 1) S.nd rfl (by first | exact .inl rfl | exact .inr rfl)) (pgs_cons (pg_name (i := 2) S.nd rfl (by first | exact .inl rfl | exact .inr rfl)) (pgs_cons (pg_name (i := 3) S.nd rfl (by first | exact .inl rfl | exact .inr rfl)) pgs_nil))))) (fun _ _ _ _ _ => pts_nil) (fun _ _ _ _ _ => (pe_tup (pa_cons (pv 1) (pa_cons (pv 2) (pa_cons (pe_callTy (lstOK K) (by rfl) T.f_list (by first | rfl | decide +kernel) (pa_cons (pv 3) pa_nil)) pa_nil)))))))), ?_⟩
    try dsimp only [cxOf, Cx.nox]
    have st0 : STT K := ⟨T.cl_Store, T.no_Store__files, T.no_Store__temps, T.no_Store__attic, T.no_Store__log, T.no_Store__new_log, T.no_Store__budget, T.no_Store__done⟩
    obtain ⟨_, rfl, a, F, E0, S, rfl, hS, hE, hl, k⟩ := h
    obtain ⟨dx, fd, td, ad, ld, nd, fs, fw, tw, aq, rfl, x⟩ := id hS
    have has : ∀ b ∈ E0 ++ foot a fd td ad tw, (∃ o, H b = some o) ∧ NT H b := fun b m => (List.mem_append.mp m).elim (hE b) (x.has b)
    walk_at "go"
    refine ⟨ad, rfl, ⟨_, SqL.of x.a1⟩, fun D hD => ?_⟩
    have la := paired_len x.a2
    refine lc_rel (walk_list (K := K) (xs := aq.map V.ref)) hD (by rw [List.length_map]; omega) (fun H1 s1 => s1.seq (SqL.of x.a1)) (fun i v H1 => ∃ q r, v = .ref q ∧ S.at_[i]? = some r ∧ AttA K (hid (E0 ++ foot a fd td ad tw) H1) q r) (fun i v H1 H2 h s => ?_) (fun i y H1 H2 C E acc hi s1 e1 hy hC => ?_) (fun H1 us s1 e1 l1 hr => ?_)
    · obtain ⟨q, r, h1, h2, h3⟩ := h
      exact ⟨q, r, h1, h2, h3.same (hid_same s)⟩
    · obtain ⟨rfl, hx⟩ := hy
      rw [List.getElem?_map] at hx
      obtain ⟨q, hq, rfl⟩ := Option.map_eq_some_iff.mp hx
      obtain ⟨r, hr, v, l, t1, t2, t3⟩ := paired_get x.a2 i q hq
      have t1 := s1 _ _ (hid_some t1).2
      have t3 := s1 _ _ (hid_some t3).2
      walk_at "go"
      intro l2 hl2
      walk_at "go"
      rename_i t ht
      have s2 := same_new (o := .lst (r.2.2.map V.int)) hl2
      have s3 := same_new (o := .tup [.str r.1, .ref v, .ref l2]) ht
      refine hC _ _ (s2.trans s3) ⟨t, r, rfl, hr, ?_⟩
      have t2 := vec_hid (t2.same hid_sub) fun d m => (has d m).2
      have fr : ∀ b ∈ E0 ++ foot a fd td ad tw, ∃ o, H2 b = some o := fun b m => by
        obtain ⟨⟨o, z⟩, _⟩ := has b m
        exact ⟨o, s1 _ _ z⟩
      have nl : l2 ∉ E0 ++ foot a fd td ad tw := fun m => by
        obtain ⟨o, z⟩ := fr _ m
        rw [hl2] at z; cases z
      have nt : t ∉ E0 ++ foot a fd td ad tw := fun m => by
        obtain ⟨o, z⟩ := fr _ m
        rw [s2 _ _ z] at ht; cases ht
      have n1 : l2 ∉ [D] := fun m => by rw [List.mem_singleton.mp m, e1] at hl2; cases hl2
      have n2 : t ∉ [D] := fun m => by rw [List.mem_singleton.mp m, s2 _ _ e1] at ht; cases ht
      refine ⟨v, l2, by rw [hid_at nt, hid_at n2, upd_same], t2.same ?_, by rw [hid_at nl, hid_at n1]; exact s3 _ _ upd_same⟩
      intro y o hy
      obtain ⟨ny, hy⟩ := hid_some hy
      have nD : y ∉ [D] := fun m => by rw [List.mem_singleton.mp m, hD] at hy; cases hy
      rw [hid_at ny, hid_at nD]
      exact s3 _ _ (s2 _ _ (s1 _ _ hy))
    obtain ⟨qs, rfl⟩ := all_refs us fun u m => by
      obtain ⟨i, hi⟩ := List.getElem?_of_mem m
      obtain ⟨q, _, e, _⟩ := hr i u hi
      exact ⟨q, e⟩
    refine k D qs H1 hD s1 e1 (prd_mk (by rw [List.length_map] at l1; rw [List.length_map] at l1; omega) fun i q r h1 h2 => ?_)
    obtain ⟨q2, r2, e2, e3, e4⟩ := hr i (.ref q) (by rw [List.getElem?_map, h1]; rfl)
    cases e2
    rw [h2] at e3
    cases e3
    rw [← hid_hid]
    exact e4
theorem ok_Store_attic_put (T : Txt K mg)  (m_Store__count_write : C8.Met P w K mg base 1 (He.ga K "Store") "_count_write" (sp_Store__count_write K) []) {f : Addr} {fd : FuncData} (F : FunD K "attic_put" "Store.attic_put" (defArgs s_Store_attic_put) (defBody s_Store_attic_put) (defScope s_Store_attic_put) [] [] f fd) : FnOk P w K mg base CX0 2 f fd ["self", "name", "vector", "content"] (sp_Store_attic_put K) := by
  refine F.ok sc_Store_attic_put (fun vs H Q E h => ?_) (fun cdv A outer s H vs Q E hr h => ?_)
  · obtain ⟨_, _, _, _, rfl, _⟩ := h
    rfl
  · have S := sc_Store_attic_put
    refine ⟨_, PSs.nox (pss_cons (ps_expr (C8.pe_mt0 m_Store__count_write hr (by decide) (pv 0)))
    (pss_one (ps_expr (pe_bm PySem.F.plainAttrs_list PySem.F.slot_list_append PySem.F.type_list_append mt_append (pe_fld (pv 0) rfl) (pa_cons (pe_tup (pa_cons (pv 1) (pa_cons (pv 2) (pa_cons (pe_callTy call_list_of (by rfl) T.f_list (by first | rfl | decide +kernel) (pa_cons (pv 3) pa_nil)) pa_nil)))) pa_nil))))), ?_⟩
    try dsimp only [cxOf, Cx.nox]
    have st0 : STT K := ⟨T.cl_Store, T.no_Store__files, T.no_Store__temps, T.no_Store__attic, T.no_Store__log, T.no_Store__new_log, T.no_Store__budget, T.no_Store__done⟩
    obtain ⟨_, _, _, _, rfl, a, w, l, F, D, S, z, vc, bs, rfl, rfl, rfl, rfl, hA, hS, hv, hl, hn, k⟩ := h
    walk_at "go"
    refine ⟨_, rfl, a, F, D, S, rfl, hA, hS, fun H1 f1 hS1 => ?_⟩
    obtain ⟨dx, fd, td, ad, ld, nd, fs, fw, tw, aq, rfl, x0⟩ := id hS
    obtain ⟨dx1, fd1, td1, ad1, ld1, nd1, fs1, fw1, tw1, aq1, hF1, x1⟩ := id hS1
    have x := x1.same hid_sub
    have ia := (x0.same hid_sub).ins
    have fN : Fr (foot a fd td ad tw) H H1 := f1.mono fun y m => by rw [List.mem_singleton.mp m]; exact List.mem_cons_self ..
    have hA1 := hA.fr hS fN
    have na : ∀ d ∈ [a], NT H d := fun d m => by rw [List.mem_singleton.mp m]; exact nt_ins ia
    have nb : ∀ d ∈ [a], NL H d := fun d m => by rw [List.mem_singleton.mp m]; exact nl_ins ia
    have hv1 := vec_fr hv f1 na
    have hl1 := seq_fr hl f1 nb
    walk_at "go"
    refine ⟨.inl ⟨rfl, _, SqL.of x.a1⟩, ?_⟩
    walk_at "go"
    intro l2 hl2
    walk_at "go"
    rename_i t ht
    have s2 := same_new (o := .lst (bs.map V.int)) hl2
    have s3 := same_new (o := .tup [.str z, .ref w, .ref l2]) ht
    have ht1 : H1 t = none := s2.free ht
    refine ⟨ad1, _, _, rfl, rfl, s3 _ _ (s2 _ _ x.a1), ?_, ?_⟩
    · have := paired_len x.a2
      have h3 : aq1.length = S.at_.length := this
      rw [List.length_map]
      exact Nat.lt_of_le_of_lt (by omega : _ ≤ 1000) (by decide)
    have hm : ad1 ∈ foot a fd td ad tw := by rw [hF1]; simp [foot]
    refine k _ ((fN.same (s2.trans s3)).put hm) ⟨dx1, fd1, td1, ad1, ld1, nd1, fs1, fw1, tw1, aq1 ++ [t], hF1, ?_⟩
    rw [hid_upd fun m => hS1.notin m hm]
    have nl := hA1.free hl2
    have nt := hA1.free ht1
    have ml := hS1.new hl2
    have mt := hS1.new ht1
    rw [hF1] at ml mt
    refine (x1.same (hid_same (s2.trans s3))).put_attic ⟨w, l2, by rw [hid_at mt, hid_at nt, upd_same], ?_, by rw [hid_at ml, hid_at nl]; exact s3 _ _ upd_same⟩
    exact (vec_hid (vec_hid hv1 hA1.nt) fun d m => (x1.has d m).2).same (hid_same (hid_same (s2.trans s3)))
theorem ok_Store_attic_drop (T : Txt K mg)  (m_Store__count_write : C8.Met P w K mg base 1 (He.ga K "Store") "_count_write" (sp_Store__count_write K) []) {f : Addr} {fd : FuncData} (F : FunD K "attic_drop" "Store.attic_drop" (defArgs s_Store_attic_drop) (defBody s_Store_attic_drop) (defScope s_Store_attic_drop) [] [] f fd) : FnOk P w K mg base CX0 2 f fd ["self", "index"] (sp_Store_attic_drop K) := by
  refine F.ok sc_Store_attic_drop (fun vs H Q E h => ?_) (fun cdv A outer s H vs Q E hr h => ?_)
  · obtain ⟨_, _, rfl, _⟩ := h
    rfl
  · have S := sc_Store_attic_drop
    refine ⟨_, PSs.nox (pss_cons (ps_expr (C8.pe_mt0 m_Store__count_write hr (by decide) (pv 0)))
    (pss_one (ps_if (pt_chain op_le op_lt pe_int (pv 1) (pe_callB call_len_seq (by rfl) T.f_len (by first | rfl | decide +kernel) (pa_cons (pe_fld (pv 0) rfl) pa_nil)))
    (pss_one (ps_delL (pe_fld (pv 0) rfl) (pv 1)))
    pss_nil))), ?_⟩
    try dsimp only [cxOf, Cx.nox]
    have st0 : STT K := ⟨T.cl_Store, T.no_Store__files, T.no_Store__temps, T.no_Store__attic, T.no_Store__log, T.no_Store__new_log, T.no_Store__budget, T.no_Store__done⟩
    obtain ⟨_, _, rfl, a, F, D, S, i, rfl, rfl, hA, hS, hl, hi, k⟩ := h
    walk_at "go"
    refine ⟨_, rfl, a, F, D, S, rfl, hA, hS, fun H1 f1 hS1 => ?_⟩
    obtain ⟨dx, fd, td, ad, ld, nd, fs, fw, tw, aq, rfl, x0⟩ := id hS
    obtain ⟨dx1, fd1, td1, ad1, ld1, nd1, fs1, fw1, tw1, aq1, hF1, x1⟩ := id hS1
    have x := x1.same hid_sub
    have la : aq1.length = S.at_.length := paired_len x.a2
    have fN : Fr (foot a fd td ad tw) H H1 := f1.mono fun y m => by rw [List.mem_singleton.mp m]; exact List.mem_cons_self ..
    have hm : ad1 ∈ foot a fd td ad tw := by rw [hF1]; simp [foot]
    have c1 : ((0 : Int) ≤ (i : Int)) := by omega
    walk_at "go"
    refine i_d (fun _ => ?_) (fun z => absurd c1 z)
    walk_at "go"
    refine ⟨ad1, _, rfl, .inl (SqL.of x.a1), ?_⟩
    rw [List.length_map]
    have c2 : (i : Int) < (aq1.length : Int) := by omega
    walk_at "go"
    refine i_d (fun _ => ?_) (fun z => absurd c2 z)
    unfold tDelL
    walk_at "go"
    refine ⟨ad1, _, _, i, rfl, rfl, x.a1, by omega, by omega, seq_nat (by rw [List.length_map]; omega), ?_⟩
    refine k _ (fN.put hm) ⟨dx1, fd1, td1, ad1, ld1, nd1, fs1, fw1, tw1, aq1.eraseIdx i, hF1, ?_⟩
    rw [hid_upd fun m => hS1.notin m hm]
    exact x1.drop_attic i
theorem ok_law_draw (T : Txt K mg)   {f : Addr} {fd : FuncData} (F : FnP K "_law_draw" s_law_draw f fd) : FnOk P w K mg base CX0 1 f fd ["state", "script", "size"] (spDraw K) := by
  refine F.ok sc_law_draw (fun vs H Q E h => ?_) (fun cdv A outer s H vs Q E hr h => ?_)
  · obtain ⟨_, _, _, rfl, _⟩ := h
    rfl
  · have S := sc_law_draw
    refine ⟨_, PSs.nox (C8.pss_cut (ps_if (pt_cmpR op_eq (pe_ix ix_list (pv 0) pe_int (fun _ _ => rfl)) pe_int (nomark _))
    (pss_cons (ps_set (i := 3) S.nd rfl (by first | exact .inl rfl | exact .inr rfl) pe_int)
      (C8.pss_cut (ps_if (pt_cmpR op_gt (pe_callB call_len_seq (by rfl) T.f_len (by first | rfl | decide +kernel) (pa_cons (pv 1) pa_nil)) pe_int (nomark _))
      (pss_one (ps_set (i := 3) S.nd rfl (by first | exact .inl rfl | exact .inr rfl) (pe_ix ix_list (pv 1) (pe_op op_mod (pe_ix ix_list (pv 0) pe_int (fun _ _ => rfl)) (pe_callB call_len_seq (by rfl) T.f_len (by first | rfl | decide +kernel) (pa_cons (pv 1) pa_nil))) (fun _ _ => rfl))))
      pss_nil)
      (C8.pss_cut (ps_if (pt_cmpR op_lt (pv 3) pe_int (nomark _))
      (pss_one (ps_set (i := 3) S.nd rfl (by first | exact .inl rfl | exact .inr rfl) (pe_op op_sub pe_int (pe_op op_mul pe_int (pv 3)))))
      pss_nil)
      (pss_cons (ps_set (i := 4) S.nd rfl (by first | exact .inl rfl | exact .inr rfl) (pe_op op_mod (pe_callTy call_int1 (by rfl) T.f_int (by first | rfl | decide +kernel) (pa_cons (pe_op op_mul (pe_op op_add (pe_op op_add (pv 3) (pe_op op_mul (pe_ix ix_list (pv 0) pe_int (fun _ _ => rfl)) pe_int)) pe_int) pe_int) pa_nil)) pe_int))
      (pss_cons (ps_asg (pe_op op_mod (pe_callTy call_int1 (by rfl) T.f_int (by first | rfl | decide +kernel) (pa_cons (pe_op op_add (pe_op op_mul (pv 4) pe_int) (pe_op op_mul (pe_ix ix_list (pv 0) pe_int (fun _ _ => rfl)) pe_int)) pa_nil)) pe_int) (pg_sub (pv 0) pe_int set_list))
      (C8.pss_cut (ps_if (pw_and (pt_cmpR op_ge (pv 3) (pe_op op_pow pe_int pe_int) (nomark _)) (pw_and1 (pt_cmpR op_lt (pe_ix ix_list (pv 0) pe_int (fun _ _ => rfl)) (pe_callB call_len_seq (by rfl) T.f_len (by first | rfl | decide +kernel) (pa_cons (pv 1) pa_nil)) (nomark _)))).pt
      (pss_one (ps_asg (pv 3) (pg_sub (pv 0) pe_int set_list)))
      pss_nil)
      (pss_one (ps_asg (pe_op op_add (pe_ix ix_list (pv 0) pe_int (fun _ _ => rfl)) pe_int) (pg_sub (pv 0) pe_int set_list)))))))))
    pss_nil)
    (pss_cons (ps_set (i := 5) S.nd rfl (by first | exact .inl rfl | exact .inr rfl) (pe_op op_mod (pe_callTy call_int1 (by rfl) T.f_int (by first | rfl | decide +kernel) (pa_cons (pe_ix ix_list (pv 0) pe_int (fun _ _ => rfl)) pa_nil)) (pv 2)))
    (pss_cons (ps_asg (pe_op op_fdivW (pe_ix ix_list (pv 0) pe_int (fun _ _ => rfl)) (pv 2)) (pg_sub (pv 0) pe_int set_list))
    (pss_one (ps_ret (pv 5)))))), ?_⟩
    try dsimp only [cxOf, Cx.nox]
    obtain ⟨_, _, _, rfl, st, sc, ns, n, rfl, rfl, rfl, d, hn0, hn1, k⟩ := h
    obtain ⟨ia, ib, ha0, hb0, hs⟩ := d.s
    have h1 : ∀ (x y : Int), 0 ≤ x → 0 ≤ y → Kp st H (upd H st (.lst [.int x, .int y])) ∧ Dr K st sc ns (upd H st (.lst [.int x, .int y])) := fun x y hx hy =>
      have k1 : Kp st H (upd H st (.lst [.int x, .int y])) := Kp.put (Kp.refl st H)
      ⟨k1, d.kp k1 ⟨x, y, hx, hy, upd_same⟩⟩
    refine e_cut (Mid := fun σ' H' => ∃ (v3 v4 : Option V), σ' = [some (.ref st), some (.ref sc), some (.int n), v3, v4, none] ∧ Kp st H H' ∧ Dr K st sc ns H') ?_ ?_
    · walk_at "go"
      refine e_ixL (SqL.of hs) rfl ?_
      walk_at "go"
      refine i_d (fun e => ?_) (fun e => ?_)
      · walk_at "go"
        refine e_cut (Mid := fun σ' H' => ∃ c : Int, σ' = [some (.ref st), some (.ref sc), some (.int n), some (.int c), none, none] ∧ H' = H) ?_ ?_
        · walk_at "go"
          refine i_d (fun e2 => ?_) (fun e2 => ?_)
          · walk_at "go"
            refine e_ixL (SqL.of hs) rfl ?_
            walk_at "go"
            have hm : 0 ≤ ia % (((ns.map V.int).length : Nat) : Int) := Int.emod_nonneg _ (by omega)
            have hm2 : ia % (((ns.map V.int).length : Nat) : Int) < (((ns.map V.int).length : Nat) : Int) := Int.emod_lt_of_pos _ (by omega)
            have hlt : (ia % (((ns.map V.int).length : Nat) : Int)).toNat < ns.length := by rw [List.length_map] at hm hm2 ⊢; omega
            refine e_ixL (v := .int ns[(ia % (((ns.map V.int).length : Nat) : Int)).toNat]) d.seq (at_of (j := (ia % (((ns.map V.int).length : Nat) : Int)).toNat) (by omega) (by rw [List.getElem?_map, List.getElem?_eq_getElem hlt]; rfl)) ?_
            walk_at "go"
            exact ⟨_, rfl, rfl⟩
          · walk_at "go"
            exact ⟨_, rfl, rfl⟩
        · rintro σ' H' ⟨c, rfl, rfl⟩
          refine e_cut (Mid := fun σ' H'' => ∃ c : Int, 0 ≤ c ∧ σ' = [some (.ref st), some (.ref sc), some (.int n), some (.int c), none, none] ∧ H'' = H') ?_ ?_
          · walk_at "go"
            refine i_d (fun e2 => ?_) (fun e2 => ?_)
            · walk_at "go"
              exact ⟨_, by omega, rfl, rfl⟩
            · walk_at "go"
              exact ⟨_, by omega, rfl, rfl⟩
          · rintro σ' H'' ⟨c, hc, rfl, rfl⟩
            have other : ∀ x : Int, 0 ≤ x % 4294967291 := fun x => Int.emod_nonneg x (show (4294967291 : Int) ≠ 0 by decide)
            walk_at "go"
            refine e_ixL (SqL.of hs) rfl ?_
            walk_at "go"
            refine e_ixL (SqL.of hs) rfl ?_
            walk_at "go"
            refine e_setL hs rfl ?_
            refine e_cut (Mid := fun σ' H3 => ∃ (v4 : Option V) (b : Int), 0 ≤ b ∧ σ' = [some (.ref st), some (.ref sc), some (.int n), some (.int c), v4, none] ∧ H3 = upd H'' st (.lst [.int ia, .int b])) ?_ ?_
            · walk_at "go"
              refine i_d (fun e2 => ?_) (fun e2 => ?_)
              · walk_at "go"
                refine e_ixL (SqL.of upd_same) rfl ?_
                walk_at "go"
                refine ⟨sc, _, rfl, .inl (h1 ia _ ha0 (other _)).2.seq, ?_⟩
                walk_at "go"
                refine i_d (fun e3 => ?_) (fun e3 => ?_)
                · walk_at "go"
                  refine e_setL upd_same rfl ?_
                  rw [upd_upd]
                  exact ⟨_, c, hc, rfl, rfl⟩
                · walk_at "go"
                  exact ⟨_, _, other _, rfl, rfl⟩
              · walk_at "go"
                exact ⟨_, _, other _, rfl, rfl⟩
            · rintro σ' H3 ⟨v4, b, hb, rfl, rfl⟩
              walk_at "go"
              refine e_ixL (SqL.of upd_same) rfl ?_
              walk_at "go"
              refine e_setL upd_same rfl ?_
              rw [upd_upd]
              obtain ⟨k1, d1⟩ := h1 (ia + 1) b (by omega) hb
              exact ⟨_, _, rfl, k1, d1⟩
      · walk_at "go"
        exact ⟨_, _, rfl, Kp.refl _ _, d⟩
    · rintro σ' H' ⟨v3, v4, rfl, k1, d1⟩
      obtain ⟨ja, jb, hja, hjb, hs1⟩ := d1.s
      walk_at "go"
      refine e_ixL (SqL.of hs1) rfl ?_
      walk_at "go"
      refine e_ixL (SqL.of hs1) rfl ?_
      walk_at "go"
      refine e_setL hs1 rfl ?_
      have hj2 : 0 ≤ jb / n := Int.ediv_nonneg hjb (by omega)
      have k2 : Kp st H (upd H' st (.lst [.int ja, .int (jb / n)])) := k1.put
      walk_at "go"
      exact k _ _ (Int.emod_nonneg _ (by omega)) (Int.emod_lt_of_pos _ hn0) k2 (d.kp k2 ⟨ja, jb / n, hja, hj2, upd_same⟩)
theorem ok_law_name (T : Txt K mg)  (c_law_draw : Cal P w K mg base 1 "_law_draw" (spDraw K)) {f : Addr} {fd : FuncData} (F : FnP K "_law_name" s_law_name f fd) : FnOk P w K mg base CX0 2 f fd ["state", "script"] (sp_law_name K) := by
  refine F.ok sc_law_name (fun vs H Q E h => ?_) (fun cdv A outer s H vs Q E hr h => ?_)
  · obtain ⟨_, _, rfl, _⟩ := h
    rfl
  · have S := sc_law_name
    refine ⟨_, PSs.nox (pss_one (ps_ret (pe_ix ix_list (pe_lst (pa_cons pe_str (pa_cons pe_str (pa_cons pe_str (pa_cons pe_str (pa_cons pe_str (pa_cons pe_str pa_nil))))))) (pe_c c_law_draw hr (by decide) (by rfl) (pa_cons (pv 0) (pa_cons (pv 1) (pa_cons pe_int pa_nil)))) (fun _ _ => rfl)))), ?_⟩
    try dsimp only [cxOf, Cx.nox]
    obtain ⟨_, _, rfl, st, sc, ns, rfl, rfl, d, k⟩ := h
    walk_at "go"
    rename_i p hp
    intro v H1 a1 b1 k1 d1
    have e1 := k1 p _ (d.ne hp) upd_same
    have h6 : v = 0 ∨ v = 1 ∨ v = 2 ∨ v = 3 ∨ v = 4 ∨ v = 5 := by omega
    rcases h6 with rfl | rfl | rfl | rfl | rfl | rfl
    all_goals
      refine e_ixL (SqL.of e1) rfl ?_
      exact k _ _ ((Kp.new hp).trans k1) d1 (by decide)
theorem ok_law_content (T : Txt K mg)  (c_law_draw : Cal P w K mg base 1 "_law_draw" (spDraw K)) {f : Addr} {fd : FuncData} (F : FnP K "_law_content" s_law_content f fd) : FnOk P w K mg base CX0 2 f fd ["state", "script", "most"] (sp_law_content K) := by
  refine F.ok sc_law_content (fun vs H Q E h => ?_) (fun cdv A outer s H vs Q E hr h => ?_)
  · obtain ⟨_, _, _, rfl, _⟩ := h
    rfl
  · have S := sc_law_content
    refine ⟨_, PSs.nox (pss_cons (ps_set (i := 3) S.nd rfl (by first | exact .inl rfl | exact .inr rfl) (pe_lst (pa_cons (pe_lst (pa_cons pe_int (pa_cons pe_int (pa_cons pe_int (pa_cons pe_int pa_nil))))) (pa_cons (pe_lst (pa_cons pe_int (pa_cons pe_int (pa_cons pe_int (pa_cons pe_int pa_nil))))) (pa_cons (pe_lst (pa_cons pe_int (pa_cons pe_int (pa_cons pe_int (pa_cons pe_int pa_nil))))) (pa_cons (pe_lst (pa_cons pe_int pa_nil)) (pa_cons (pe_lst (pa_cons pe_int (pa_cons pe_int pa_nil))) (pa_cons (pe_lst (pa_cons (pe_c c_law_draw hr (by decide) (by rfl) (pa_cons (pv 0) (pa_cons (pv 1) (pa_cons pe_int pa_nil)))) (pa_cons pe_int (pa_cons pe_int (pa_cons pe_int pa_nil))))) pa_nil))))))))
    (pss_cons (ps_set (i := 4) S.nd rfl (by first | exact .inl rfl | exact .inr rfl) (pe_lst pa_nil))
    (pss_cons (ps_for PassesOwn.never rfl (pi_range1 (by rfl) T.f_range (pa_cons (pe_c c_law_draw hr (by decide) (by rfl) (pa_cons (pv 0) (pa_cons (pv 1) (pa_cons (pe_op op_add (pv 2) pe_int) pa_nil)))) pa_nil)) (pg_name (i := 5) S.nd rfl (by first | exact .inl rfl | exact .inr rfl))
    (pss_one (ps_set (i := 4) S.nd rfl (by first | exact .inl rfl | exact .inr rfl) (pe_op op_cat (pv 4) (pe_ix ix_list (pv 3) (pe_c c_law_draw hr (by decide) (by rfl) (pa_cons (pv 0) (pa_cons (pv 1) (pa_cons pe_int pa_nil)))) (fun _ _ => rfl))))))
    (pss_one (ps_ret (pv 4)))))), ?_⟩
    try dsimp only [cxOf, Cx.nox]
    obtain ⟨_, _, _, rfl, st, sc, ns, n, rfl, rfl, rfl, hn, d, k⟩ := h
    walk_at "go"
    rename_i p1 h1 p2 h2 p3 h3 p4 h4 p5 h5
    have s1 := same_new (o := .lst [.int 1, .int 2, .int 3, .int 4]) h1
    have s2 := same_new (o := .lst [.int 0, .int 0, .int 0, .int 0]) h2
    have s3 := same_new (o := .lst [.int 255, .int 254, .int 253, .int 252]) h3
    have s4 := same_new (o := .lst [.int 5]) h4
    have s5 := same_new (o := .lst [.int 9, .int 9]) h5
    have s14 := ((s1.trans s2).trans s3).trans s4
    have d5 := d.same (s14.trans s5)
    have m1 := d.ne h1
    have m2 := d.ne (s1.free h2)
    have m3 := d.ne ((s1.trans s2).free h3)
    have m4 := d.ne (((s1.trans s2).trans s3).free h4)
    have m5 := d.ne (s14.free h5)
    have f1 := s5 _ _ (s4 _ _ (s3 _ _ (s2 _ _ (upd_same (H := H) (a := p1) (o := .lst [.int 1, .int 2, .int 3, .int 4])))))
    have f2 := s5 _ _ (s4 _ _ (s3 _ _ (upd_same (a := p2) (o := .lst [.int 0, .int 0, .int 0, .int 0]))))
    have f3 := s5 _ _ (s4 _ _ (upd_same (a := p3) (o := .lst [.int 255, .int 254, .int 253, .int 252])))
    have f4 := s5 _ _ (upd_same (a := p4) (o := .lst [.int 5]))
    have f5 := upd_same (H := _) (a := p5) (o := .lst [.int 9, .int 9]) |> fun (z : upd (upd (upd (upd (upd H p1 (.lst [.int 1, .int 2, .int 3, .int 4])) p2 (.lst [.int 0, .int 0, .int 0, .int 0])) p3 (.lst [.int 255, .int 254, .int 253, .int 252])) p4 (.lst [.int 5])) p5 (.lst [.int 9, .int 9]) p5 = _) => z
    have k5 : Kp st H _ := Kp.of (s14.trans s5)
    generalize upd (upd (upd (upd (upd H p1 (.lst [.int 1, .int 2, .int 3, .int 4])) p2 (.lst [.int 0, .int 0, .int 0, .int 0])) p3 (.lst [.int 255, .int 254, .int 253, .int 252])) p4 (.lst [.int 5])) p5 (.lst [.int 9, .int 9]) = G at d5 f1 f2 f3 f4 f5 k5 ⊢
    walk_at "go"
    intro v H1 a1 b1 k1 d1
    walk_at "go"
    rename_i p6 h6 pw hw c0 hc0
    have k51 := k5.trans k1
    have t6 := same_new (o := .lst [.int v, .int 7, .int 7, .int 7]) h6
    have tw := same_new (o := .lst [.ref p1, .ref p2, .ref p3, .ref p4, .ref p5, .ref p6]) hw
    have tc := same_new (o := .lst []) hc0
    have dc := d1.same ((t6.trans tw).trans tc)
    have kc : Kp st H _ := k51.trans (Kp.of ((t6.trans tw).trans tc))
    have nc := d1.ne ((t6.trans tw).free hc0)
    have nw := d1.ne (t6.free hw)
    have n6 := d1.ne h6
    have c0n := dr_free d1 k51 ((t6.trans tw).free hc0)
    have ew := tc _ _ (upd_same (a := pw) (o := .lst [.ref p1, .ref p2, .ref p3, .ref p4, .ref p5, .ref p6]))
    have ec := upd_same (H := upd (upd H1 p6 (.lst [.int v, .int 7, .int 7, .int 7])) pw (.lst [.ref p1, .ref p2, .ref p3, .ref p4, .ref p5, .ref p6])) (a := c0) (o := .lst [])
    have W : ∀ i : Int, 0 ≤ i → i < 6 → ∃ (q : Addr) (xs : List Int), atI [V.ref p1, V.ref p2, V.ref p3, V.ref p4, V.ref p5, V.ref p6] i = some (.ref q) ∧ q ≠ st ∧ upd (upd (upd H1 p6 (.lst [.int v, .int 7, .int 7, .int 7])) pw (.lst [.ref p1, .ref p2, .ref p3, .ref p4, .ref p5, .ref p6])) c0 (.lst []) q = some (.lst (xs.map V.int)) ∧ isB xs ∧ xs.length ≤ 4 := fun i i0 i6 => by
      have h6 : i = 0 ∨ i = 1 ∨ i = 2 ∨ i = 3 ∨ i = 4 ∨ i = 5 := by omega
      have tt := (t6.trans tw).trans tc
      rcases h6 with rfl | rfl | rfl | rfl | rfl | rfl
      · exact ⟨p1, [1, 2, 3, 4], rfl, m1, tt _ _ (k1 _ _ m1 f1), by unfold isB; simp, by decide⟩
      · exact ⟨p2, [0, 0, 0, 0], rfl, m2, tt _ _ (k1 _ _ m2 f2), by unfold isB; simp, by decide⟩
      · exact ⟨p3, [255, 254, 253, 252], rfl, m3, tt _ _ (k1 _ _ m3 f3), by unfold isB; simp, by decide⟩
      · exact ⟨p4, [5], rfl, m4, tt _ _ (k1 _ _ m4 f4), by unfold isB; simp, by decide⟩
      · exact ⟨p5, [9, 9], rfl, m5, tt _ _ (k1 _ _ m5 f5), by unfold isB; simp, by decide⟩
      · exact ⟨p6, [v, 7, 7, 7], rfl, n6, tc _ _ (tw _ _ upd_same), by unfold isB; simp; omega, by simp⟩
    generalize upd (upd (upd H1 p6 (.lst [.int v, .int 7, .int 7, .int 7])) pw (.lst [.ref p1, .ref p2, .ref p3, .ref p4, .ref p5, .ref p6])) c0 (.lst []) = Hb at dc kc ew ec W ⊢
    walk_at "go"
    intro m H2 a2 b2 k2 d2
    walk_at "go"
    refine for_rng (fun i σ H3 => ∃ q v5, σ = [some (.ref st), some (.ref sc), some (.int n), some (.ref pw), some (.ref q), v5] ∧ Kp st Hb H3 ∧ Dr K st sc ns H3 ∧ q ≠ st ∧ H q = none ∧ ∃ xs : List Int, H3 q = some (.lst (xs.map V.int)) ∧ isB xs ∧ xs.length ≤ 4 * i) ⟨c0, _, rfl, k2, d2, nc, c0n, [], k2 _ _ nc ec, fun b h => (by cases h), Nat.le_refl _⟩ (fun i σ H3 hi q => ?_) (fun σ H3 q => ?_)
    · obtain ⟨q, v5, rfl, k3, d3, nq, hq, xs, e3, b3, l3⟩ := q
      walk_at "go"
      intro w H4 a4 b4 k4 d4
      obtain ⟨qw, ws, hat, nqw, ewq, hbw, hlw⟩ := W w a4 b4
      walk_at "go"
      refine e_ixL (SqL.of (k4 _ _ nw (k3 _ _ nw ew))) hat ?_
      walk_at "go"
      refine e_cat (k4 _ _ nq e3) (k4 _ _ nqw (k3 _ _ nqw ewq)) (by rw [List.length_map, List.length_map]; omega) fun p7 hp7 => ?_
      have k34 := k3.trans k4
      walk_at "go"
      refine ⟨p7, _, rfl, k34.trans (Kp.new hp7), d4.same (same_new hp7), d4.ne hp7, dr_free d4 (kc.trans k34) hp7, xs ++ ws, by rw [upd_same, List.map_append], fun b hb => ?_, by rw [List.length_append]; omega⟩
      rcases List.mem_append.mp hb with h | h
      · exact b3 b h
      · exact hbw b h
    · obtain ⟨q, v5, rfl, k3, d3, nq, hq, xs, e3, b3, l3⟩ := q
      walk_at "go"
      exact k q xs H3 hq (kc.trans k3) d3 e3 b3 (by omega)
theorem ok_law_tidied (T : Txt K mg)   {f : Addr} {fd : FuncData} (F : FnP K "_law_tidied" s_law_tidied f fd) : FnOk P w K mg base CX0 1 f fd ["lots", "each", "total"] (sp_law_tidied K) := by
  refine F.ok sc_law_tidied (fun vs H Q E h => ?_) (fun cdv A outer s H vs Q E hr h => ?_)
  · obtain ⟨_, _, _, rfl, _⟩ := h
    rfl
  · have S := sc_law_tidied
    refine ⟨_, PSs.nox (pss_cons (ps_set (i := 3) S.nd rfl (by first | exact .inl rfl | exact .inr rfl) (pe_lst pa_nil))
    (pss_cons (ps_for PassesOwn.never rfl (pi_list (pe_callB cr_sortedS (by rfl) T.f_sorted (by first | rfl | decide +kernel) (pa_cons (pe_lc (own := [("name", 4)]) (g := gName 4) (tt := tYes) rfl S.nd (pi_list (pe_lst (pa_cons pe_str (pa_cons pe_str (pa_cons pe_str (pa_cons pe_str (pa_cons pe_str (pa_cons pe_str pa_nil)))))))) (blkOk_by (N := N_law_tidied) (sc := defScope s_law_tidied) (by decide +kernel)) (fun _ _ _ _ _ => (pg_name (i := 4) S.nd rfl (by first | exact .inl rfl | exact .inr rfl))) (fun _ _ _ _ _ => pts_nil) (fun _ _ _ _ _ => (pv 4))) pa_nil))) (pg_name (i := 4) S.nd rfl (by first | exact .inl rfl | exact .inr rfl))
    (pss_cons (ps_setLc (i := 5) (own := [("one", 6)]) (g := gName 6) rfl S.nd rfl rfl (sw_true rfl rfl rfl (by decide +kernel)) (pi_list (pv 0)) (blkOk_by (N := N_law_tidied) (sc := defScope s_law_tidied) (by decide +kernel)) (fun _ _ _ _ _ => (pg_name (i := 6) S.nd rfl (by first | exact .inl rfl | exact .inr rfl))) (fun _ _ _ _ _ => (pts_one (pt_cmpR op_eq (pe_ix (ixT K) (pv 6) pe_int (fun _ _ => rfl)) (pv 4) (nomark _)))) (fun _ _ _ _ _ => (pv 6)))
      (pss_one (ps_for PassesOwn.never rfl (pi_list (pe_slice sl_list (pv 5) po_none (po_some (pe_callB (call_max2 rfl) (by rfl) T.f_max (by first | rfl | decide +kernel) (pa_cons pe_int (pa_cons (pe_op op_sub (pe_callB call_len_seq (by rfl) T.f_len (by first | rfl | decide +kernel) (pa_cons (pv 5) pa_nil)) (pv 1)) pa_nil)))))) (pg_name (i := 6) S.nd rfl (by first | exact .inl rfl | exact .inr rfl))
      (pss_cons (ps_expr (pe_bm PySem.F.plainAttrs_list PySem.F.slot_list_append PySem.F.type_list_append mt_append (pv 3) (pa_cons (pv 6) pa_nil)))
        (pss_one (ps_expr (pe_bm PySem.F.plainAttrs_list PySem.F.slot_list_remove PySem.F.type_list_remove (mt_removeD (un65 hr)) (pv 0) (pa_cons (pv 6) pa_nil)))))))))
    (pss_cons (ps_while PassesOwn.never (pt_cmpR op_gt (pe_callB (cr_sum rfl) (by rfl) T.f_sum (by first | rfl | decide +kernel) (pa_cons (pe_lc (own := [("one", 6)]) (g := gName 6) (tt := tYes) rfl S.nd (pi_list (pv 0)) (blkOk_by (N := N_law_tidied) (sc := defScope s_law_tidied) (by decide +kernel)) (fun _ _ _ _ _ => (pg_name (i := 6) S.nd rfl (by first | exact .inl rfl | exact .inr rfl))) (fun _ _ _ _ _ => pts_nil) (fun _ _ _ _ _ => (pe_callB (lenSK K) (by rfl) T.f_len (by first | rfl | decide +kernel) (pa_cons (pe_ix (ixT K) (pv 6) pe_int (fun _ _ => rfl)) pa_nil)))) pa_nil)) (pv 2) (nomark _))
    (pss_one (ps_expr (pe_bm PySem.F.plainAttrs_list PySem.F.slot_list_append PySem.F.type_list_append mt_append (pv 3) (pa_cons (pe_bm PySem.F.plainAttrs_list PySem.F.slot_list_pop PySem.F.type_list_pop mt_popAt (pv 0) (pa_cons pe_int pa_nil)) pa_nil)))))
    (pss_one (ps_ret (pv 3)))))), ?_⟩
    try dsimp only [cxOf, Cx.nox]
    obtain ⟨_, _, _, rfl, lo, qs, U, l, e, t, rfl, rfl, rfl, hlo, mU, hQ, hl, h6, k⟩ := h
    walk_at "go"
    rename_i g hg c6 hc6
    have s1 := same_new (o := .lst []) hg
    have ng : lo ≠ g := fun z => by rw [z, hg] at hlo; cases hlo
    have v0 : Lw K H (upd H g (.lst [])) U lo g [] l := ⟨Kp.of s1, mU, ng, hg, ⟨qs, s1 _ _ hlo, ats_same hQ fun y o h => by
      obtain ⟨n, h⟩ := hid_some h
      have ny : y ≠ g := ne_of_none h hg
      rw [hid_at (by simp [ny, n])]
      exact s1 _ _ h⟩, ⟨[], upd_same, .nil⟩⟩
    generalize upd H g (.lst []) = H1 at v0 hc6 ⊢
    have s2 := same_new (o := .lst [.str "a", .str "b", .str "a/b", .str "Z9", .str "c", .str "longer/names/are/here/abcdefghijklmnopqr"]) hc6
    have v1 := v0.same s2
    have ec6 := upd_same (H := H1) (a := c6) (o := .lst [.str "a", .str "b", .str "a/b", .str "Z9", .str "c", .str "longer/names/are/here/abcdefghijklmnopqr"])
    generalize upd H1 c6 (.lst [.str "a", .str "b", .str "a/b", .str "Z9", .str "c", .str "longer/names/are/here/abcdefghijklmnopqr"]) = H2 at v1 ec6 ⊢
    walk_at "go"
    intro D2 hD2
    refine lc_rel (walk_list (K := K) (xs := [.str "a", .str "b", .str "a/b", .str "Z9", .str "c", .str "longer/names/are/here/abcdefghijklmnopqr"])) hD2 (by decide) (fun H3 s3 => s3.seq (SqL.of ec6)) (fun i v _ => ∃ r, ([.str "a", .str "b", .str "a/b", .str "Z9", .str "c", .str "longer/names/are/here/abcdefghijklmnopqr"] : List V)[i]? = some r ∧ v = r) (fun i v H3 H4 h s => h) (fun i y H3 H4 C E acc hi s3 e3 hy hC => ?_) (fun H3 us s3 e3 l3 hr => ?_)
    · obtain ⟨rfl, hx⟩ := hy
      walk_at "go"
      exact hC _ _ (Same.refl _) ⟨y, hx, rfl⟩
    have eu := rel_vals (fun r => r) (by rw [l3]) hr
    rw [List.map_id'] at eu
    subst eu
    have v3 := v1.same s3
    walk_at "go"
    refine ⟨D2, ["a", "b", "a/b", "Z9", "c", "longer/names/are/here/abcdefghijklmnopqr"], rfl, SqL.of e3, by decide, fun ys py hperm hsort hpy => ?_⟩
    have ey0 : ys = S6 := sorted_one (hperm.trans (by decide +kernel)) hsort (by decide +kernel)
    subst ey0
    have s5 := same_new (o := .lst (S6.map V.str)) hpy
    have v5 := v3.same s5
    have npl : py ≠ lo := fun z => by
      obtain ⟨qs', e', _⟩ := v3.q
      rw [z, e'] at hpy; cases hpy
    have npg : py ≠ g := fun z => by
      obtain ⟨qs', e', _⟩ := v3.r
      rw [z, e'] at hpy; cases hpy
    have ey := upd_same (H := H3) (a := py) (o := .lst (S6.map V.str))
    generalize upd H3 py (.lst (S6.map V.str)) = H6 at v5 ey ⊢
    clear v3 v1 v0 s3 s2 s1 hr l3 e3 hD2 ec6 hc6 hg s5 hpy hlo hQ hperm hsort
    walk_at "go"
    refine for_list (K := K) (xs := S6.map V.str) (fun i σ H4 => (∃ v4 v5 v6, σ = [some (.ref lo), some (.int e), some (.int t), some (.ref g), v4, v5, v6]) ∧ H4 py = some (.lst (S6.map V.str)) ∧ ∃ s : List Rw × List Rw, Lw K H H4 U lo g s.1 s.2 ∧ s = (S6.take i).foldl (stpN e) ([], l)) ⟨⟨_, _, _, rfl⟩, ey, _, v5, rfl⟩ (fun i σ H4 _ q => SqL.of q.2.1) (fun i x σ H4 hx q => ?_) (fun σ H4 q => ?_)
    · obtain ⟨⟨v4, v5, v6, rfl⟩, ey, s, v, hf⟩ := q
      rw [List.getElem?_map] at hx
      obtain ⟨nm, hnm, rfl⟩ := Option.map_eq_some_iff.mp hx
      have l2 : s.2.length ≤ 60 := by rw [hf]; exact Nat.le_trans (at_fold_len e _ _) hl
      have lg : s.1.length ≤ 4000 := by
        rw [hf]
        have h1 := at_foldG_len e (S6.take i) ([], l)
        have h2 : (S6.take i).length * l.length ≤ 6 * 60 := Nat.mul_le_mul (by rw [List.length_take]; exact Nat.min_le_right _ _) hl
        simp only [List.length_nil] at h1
        omega
      have m6 : ∀ r ∈ s.2, r.1 ∈ S6 := fun r m => h6 r (by rw [hf] at m; exact at_fold_mem e _ _ r m)
      obtain ⟨qs4, e4, q4⟩ := v.q
      have lq4 : qs4.length = s.2.length := paired_len q4
      have q4' := ats_same q4 hid_sub
      walk_at "go"
      intro D3 hD3
      refine lc_relF (walk_list (K := K) (xs := qs4.map V.ref)) hD3 (by rw [List.length_map]; omega) (fun H5 s5 => s5.seq (SqL.of e4)) (fun i => (s.2.take i).filter (isN nm)) rfl (fun i hi => Nat.le_trans (List.length_filter_le ..) (by rw [List.length_take]; omega)) (fun r v H5 => ∃ q, v = .ref q ∧ AttA K (hid (g :: U) H5) q r) (fun r v H5 H6 h s => ?_) (fun i y H5 H6 C E acc hi s5 e5 hy hC hE => ?_) (fun H5 us s5 e5 pr => ?_)
      · obtain ⟨q, h1, h2⟩ := h
        exact ⟨q, h1, h2.same (hid_same s)⟩
      · obtain ⟨rfl, hx⟩ := hy
        rw [List.getElem?_map] at hx
        obtain ⟨q, hq, rfl⟩ := Option.map_eq_some_iff.mp hx
        obtain ⟨rr, hrr, hat⟩ := paired_get q4 i q hq
        obtain ⟨vv, c, t1, t2, t3⟩ := id hat
        have t1' := s5 _ _ (hid_some t1).2
        have pt := filt_take (p := isN nm) hrr
        walk_at "go"
        refine e_ixT (SqT.of t1') rfl ?_
        walk_at "go"
        refine i_d (fun z => ?_) (fun z => ?_)
        · walk_at "go"
          rw [if_pos (show isN nm rr = true from decide_eq_true z)] at pt
          refine hC rr _ _ pt (Same.refl _) ⟨q, rfl, hat.same fun y o hy => ?_⟩
          obtain ⟨ny, hy⟩ := hid_some hy
          have nD : y ∉ [D3] := fun m => by rw [List.mem_singleton.mp m, hD3] at hy; cases hy
          rw [hid_at ny, hid_at nD]
          exact s5 _ _ hy
        · rw [if_neg (show ¬ isN nm rr = true from by unfold isN; simpa using z), List.append_nil] at pt
          exact hE _ pt (Same.refl _)
      · obtain ⟨os, rfl⟩ := all_refs us fun u m => by
          obtain ⟨i, hi⟩ := List.getElem?_of_mem m
          obtain ⟨r, _, q, e, _⟩ := paired_get pr i u hi
          exact ⟨q, e⟩
        rw [List.length_map, lq4, List.take_length] at pr
        have po : Ats K (hid (g :: U) H5) os (s.2.filter (isN nm)) := prd_mk (by have := paired_len pr; rw [List.length_map] at this; exact this) fun i q r h1 h2 => by
          obtain ⟨r2, h3, q2, e6, h4⟩ := paired_get pr i (.ref q) (by rw [List.getElem?_map, h1]; rfl)
          cases e6
          rw [h2] at h3
          cases h3
          exact h4.same hid_sub2
        have v5 := v.same s5
        have ey5 := s5 _ _ ey
        have lo5 : os.length = (s.2.filter (isN nm)).length := paired_len po
        walk_at "go"
        refine ⟨_, _, rfl, _, rfl, ?_⟩
        rw [List.length_map, lo5, max0]
        refine e_slL (SqL.of e5) fun sl hsl => ?_
        rw [cut_toV, ← List.map_take]
        have lm : (s.2.filter (isN nm)).length - e = overN e nm s.2 := rfl
        rw [lm]
        have s6 := same_new (o := .lst ((os.take (overN e nm s.2)).map V.ref)) hsl
        have v6 := v5.same s6
        have nsl : sl ≠ lo := fun z => by
          obtain ⟨qs', e', _⟩ := v5.q
          rw [z, e'] at hsl; cases hsl
        have nsg : sl ≠ g := fun z => by
          obtain ⟨qs', e', _⟩ := v5.r
          rw [z, e'] at hsl; cases hsl
        have esl := upd_same (H := H5) (a := sl) (o := .lst ((os.take (overN e nm s.2)).map V.ref))
        have ey6 := s6 _ _ ey5
        have po6 := ats_same po (hid_same s6)
        generalize upd H5 sl (.lst ((os.take (overN e nm s.2)).map V.ref)) = H6 at v6 esl ey6 po6 ⊢
        clear s6 hsl v5 ey5 po pr e5 s5 hD3 q4' q4 e4 v ey
        walk_at "go"
        refine for_list (K := K) (xs := (os.take (overN e nm s.2)).map V.ref) (fun i σ H7 => (∃ v6, σ = [some (.ref lo), some (.int e), some (.int t), some (.ref g), some (.str nm), some (.ref D3), v6]) ∧ H7 py = some (.lst (S6.map V.str)) ∧ H7 sl = some (.lst ((os.take (overN e nm s.2)).map V.ref)) ∧ Ats K (hid (g :: U) H7) os (s.2.filter (isN nm)) ∧ Lw K H H7 U lo g (s.1 ++ (s.2.filter (isN nm)).take i) (rmP (isN nm) i s.2)) ⟨⟨_, rfl⟩, ey6, esl, po6, by rw [List.take_zero, List.append_nil]; exact v6⟩ (fun i σ H7 _ q => SqL.of q.2.2.1) (fun i x σ H7 hx q => ?_) (fun σ H7 q => ?_)
        · obtain ⟨⟨v6, rfl⟩, ey7, es7, po7, v⟩ := q
          rw [List.getElem?_map] at hx
          obtain ⟨y, hy, rfl⟩ := Option.map_eq_some_iff.mp hx
          rw [List.getElem?_take] at hy
          split at hy
          case isFalse => cases hy
          rename_i hio
          obtain ⟨r, hr, hat⟩ := paired_get po7 i y hy
          have hif := (List.getElem?_eq_some_iff.mp hr).1
          have hpl := pos_len (isN nm) s.2 0
          have hij : (posP (isN nm) 0 s.2)[i]? = some (posP (isN nm) 0 s.2)[i] := List.getElem?_eq_getElem (by omega)
          obtain ⟨r', g1, g2, g3, g4, g5, g6, g7⟩ := rm_next hij
          rw [hr] at g5
          cases g5
          generalize (posP (isN nm) 0 s.2)[i] = ij at hij g1 g2 g4 g7
          have hl7 := rmP_len (isN nm) s.2 i
          have hlt := (List.getElem?_eq_some_iff.mp g2).1
          obtain ⟨ys, b1, b2, v2⟩ := v.more hat
          walk_at "go"
          refine ⟨g, ys, _, rfl, rfl, b1, ?_, ?_⟩
          · rw [b2, List.length_append, List.length_take]
            have := List.length_filter_le (isN nm) s.2
            exact Nat.lt_of_le_of_lt (by omega : _ ≤ 100000) (by decide)
          have hat2 : AttA K (hid (g :: U) (upd H7 g (.lst (ys ++ [.ref y])))) y r := by rw [hid_upd_in (by simp)]; exact hat
          obtain ⟨xs, d1, d2, d3, d4, v3⟩ := v2.less (ij - i)
          walk_at "go"
          have m7 : ∀ r ∈ rmP (isN nm) i s.2, r.1 ∈ S6 := fun r m => m6 r (rmP_mem _ _ _ r m)
          refine ⟨lo, .ref y, xs, rowD r, _, ij - i, rowD r, rfl, rfl, d1, d3, dp_row (hat2.same hid_sub), rows_shaped _ m7, row_shaped r (m7 r (List.mem_of_getElem? g2)), by rw [List.getElem?_map, g2]; rfl, row_self r, fun m z' hm hz => ?_, ?_⟩
          · rw [List.getElem?_map] at hz
            obtain ⟨r2, hr2, rfl⟩ := Option.map_eq_some_iff.mp hz
            have h1 := g7 m r2 hm hr2
            refine row_ne fun z => ?_
            unfold isN at h1 g3
            rw [z, g3] at h1
            cases h1
          refine ⟨⟨_, rfl⟩, by rw [upd_ne npl, upd_ne npg]; exact ey7, by rw [upd_ne nsl, upd_ne nsg]; exact es7, by rw [hid_upd_in (List.mem_cons_of_mem _ v.m), hid_upd_in (by simp)]; exact po7, ?_⟩
          rw [g4, g6, ← List.append_assoc]
          exact v3
        · obtain ⟨⟨v6, rfl⟩, ey7, es7, po7, v⟩ := q
          have lt : ((os.take (overN e nm s.2)).map V.ref).length = overN e nm s.2 := by
            rw [List.length_map, List.length_take, lo5]
            unfold overN
            omega
          rw [lt] at v
          refine ⟨⟨_, _, _, rfl⟩, ey7, stpN e s nm, v, ?_⟩
          rw [List.take_add_one, hnm, Option.toList, List.foldl_append, ← hf]; rfl
    · obtain ⟨⟨v4, v5, v6, rfl⟩, ey, s, v, hf⟩ := q
      rw [List.length_map, List.take_length] at hf
      have l2 : s.2.length ≤ 60 := by rw [hf]; exact Nat.le_trans (at_fold_len e _ _) hl
      have lg : s.1.length ≤ 4000 := by
        rw [hf]
        have h1 := at_foldG_len e S6 ([], l)
        have h2 : S6.length * l.length ≤ 6 * 60 := Nat.mul_le_mul (by decide) hl
        simp only [List.length_nil] at h1
        omega
      refine e_tWhile ⟨Wl K H U lo g l e t, ⟨_, ⟨_, _, _, rfl⟩, s.1, s.2, rfl, l2, by omega, v, by rw [hf]; rfl, by rw [hf]; rfl⟩, fun m σ H5 q => ?_⟩
      clear v hf l2 lg ey
      obtain ⟨⟨v4, v5, v6, rfl⟩, gone, l', rfl, l2, l3, v, h1, h2⟩ := q
      obtain ⟨qs5, e5, q5⟩ := v.q
      have lq5 : qs5.length = l'.length := paired_len q5
      have q5' := ats_same q5 hid_sub
      walk_at "go"
      intro D4 hD4
      refine lc_rel (walk_list (K := K) (xs := qs5.map V.ref)) hD4 (by rw [List.length_map]; omega) (fun H6 s6 => s6.seq (SqL.of e5)) (fun i v _ => ∃ r, l'[i]? = some r ∧ v = .int (r.2.2.length : Nat)) (fun i v H1 H2 h s => h) (fun i y H6 H7 C E acc hi s6 e6 hy hC => ?_) (fun H6 us s6 e6 l6 hr => ?_)
      · obtain ⟨rfl, hx⟩ := hy
        rw [List.getElem?_map] at hx
        obtain ⟨q, hq, rfl⟩ := Option.map_eq_some_iff.mp hx
        obtain ⟨rr, hrr, vv, c, t1, t2, t3⟩ := paired_get q5' i q hq
        have t1 := s6 _ _ t1
        have t3 := s6 _ _ t3
        walk_at "go"
        refine e_ixT (SqT.of t1) rfl ?_
        walk_at "go"
        rw [List.length_map]
        exact hC _ _ (Same.refl _) ⟨rr, hrr, rfl⟩
      have e7 := rel_ints (l := l') (fun r => ((r.2.2.length : Nat) : Int)) (by rw [l6, List.length_map, lq5]) hr
      rw [e7] at e6
      have v7 := v.same s6
      walk_at "go"
      refine ⟨D4, _, rfl, SqL.of e6, ?_⟩
      rw [sum_tot]
      walk_at "go"
      refine i_d (fun z => ?_) (fun z => ?_)
      · obtain ⟨r, l'', rfl, c4, c5⟩ := at_cut_go (t := t) (l := l') (by omega)
        rw [List.length_cons] at l2 l3
        refine ⟨fun σ' H' => ∃ m', m' < (r :: l'').length ∧ Wl K H U lo g l e t m' σ' H', fun _ _ q => q, ?_⟩
        obtain ⟨xs, d1, d2, d3, d4, v8⟩ := v7.less 0
        obtain ⟨y, hy, hat⟩ := d4 r rfl
        have hat2 : AttA K (hid (g :: U) (upd H6 lo (.lst (xs.eraseIdx 0)))) y r := by rw [hid_upd_in (List.mem_cons_of_mem _ v7.m)]; exact hat
        obtain ⟨ys, b1, b2, v9⟩ := v8.more hat2
        obtain ⟨gs6, eg6, _⟩ := v7.r
        walk_at "go"
        refine ⟨lo, xs, _, 0, _, rfl, rfl, d1, by decide, by decide, by rw [d2]; exact seq_nat (by simp), hy, ?_⟩
        walk_at "go"
        refine ⟨g, ys, _, rfl, rfl, b1, ?_, ?_⟩
        · rw [b2]
          exact Nat.lt_of_le_of_lt (by omega : _ ≤ 100000) (by decide)
        refine ⟨l''.length, by simp, ⟨_, _, _, rfl⟩, gone ++ [r], l'', rfl, by omega, by rw [List.length_append, List.length_singleton]; omega, v9, ?_, by rw [← c4]; exact h2⟩
        rw [List.append_assoc, ← h1, c5]; rfl
      · obtain ⟨c4, c5⟩ := at_cut_stop (t := t) (l := l') (by omega)
        rw [c5, List.append_nil] at h1
        rw [c4] at h2
        rw [h1, h2] at v7
        obtain ⟨gs, e8, q8⟩ := v7.r
        obtain ⟨qs8, e9, q9⟩ := v7.q
        walk_at "go"
        exact k g gs qs8 H6 v7.hg v7.kp e9 (ats_same q9 (hid_le fun b m => List.mem_cons_of_mem _ m)) e8 (ats_same q8 (hid_le fun b m => List.mem_cons_of_mem _ m))
theorem ok_law (T : Txt K mg) (c_Store : C8.Mak P w K mg base 1 "Store" (He.ga K "Store") (sp_Store___init__ K) [])  (c_Rule : C8.Mak P w K mg base 1 "Rule" (He.ga K "Rule") (sp_Rule___init__ K) [])  (c_law_draw : Cal P w K mg base 1 "_law_draw" (spDraw K)) (c_law_name : Cal P w K mg base 2 "_law_name" (sp_law_name K)) (c_law_content : Cal P w K mg base 2 "_law_content" (sp_law_content K)) (c_law_tidied : Cal P w K mg base 1 "_law_tidied" (sp_law_tidied K)) (c_keep : Cal P w K mg base 4 "keep" (sp_keep K)) (c_tidy : Cal P w K mg base 3 "tidy" (sp_tidy K)) (c_let_go : Cal P w K mg base 3 "let_go" (sp_let_go K)) (c_size_of : Cal P w K mg base 2 "size_of" (sp_size_of K)) (m_Store_attic : C8.Met P w K mg base 1 (He.ga K "Store") "attic" (sp_Store_attic K) []) (c_kept : Cal P w K mg base 2 "kept" (sp_kept K)) (e_Rule : EqC P w K mg base 1 "Rule" (sp_Rule___eq__ K)) {f : Addr} {fd : FuncData} (F : FnP K "law" s_law f fd) : FnOk P w K mg base CX0 5 f fd ["script"] (sp_law K) := by
  refine F.ok sc_law (fun vs H Q E h => ?_) (fun cdv A outer s H vs Q E hr h => ?_)
  · obtain ⟨_, rfl, _⟩ := h
    rfl
  · have S := sc_law
    refine ⟨_, PSs.nox (pss_cons (ps_set (i := 1) S.nd rfl (by first | exact .inl rfl | exact .inr rfl) (pe_lst (pa_cons pe_int (pa_cons pe_int pa_nil))))
    (pss_cons (ps_set (i := 2) S.nd rfl (by first | exact .inl rfl | exact .inr rfl) (C8.pe_mk c_Store hr (by decide) (by rfl) (pa_cons pe_dnewK (pa_cons (pe_lst pa_nil) pa_nil))))
    (pss_cons (ps_set (i := 3) S.nd rfl (by first | exact .inl rfl | exact .inr rfl) (pe_lst pa_nil))
    (pss_cons (ps_for PassesOwn.never rfl (pi_range1 (by rfl) T.f_range (pa_cons (pe_c c_law_draw hr (by decide) (by rfl) (pa_cons (pv 1) (pa_cons (pv 0) (pa_cons pe_int pa_nil)))) pa_nil)) (pg_name (i := 4) S.nd rfl (by first | exact .inl rfl | exact .inr rfl))
    (pss_cons (ps_set (i := 5) S.nd rfl (by first | exact .inl rfl | exact .inr rfl) (C8.pe_mk c_Rule hr (by decide) (by rfl) (pa_cons (pe_c c_law_draw hr (by decide) (by rfl) (pa_cons (pv 1) (pa_cons (pv 0) (pa_cons pe_int pa_nil)))) (pa_cons (pe_c c_law_draw hr (by decide) (by rfl) (pa_cons (pv 1) (pa_cons (pv 0) (pa_cons pe_int pa_nil)))) pa_nil))))
      (pss_cons (ps_set (i := 6) S.nd rfl (by first | exact .inl rfl | exact .inr rfl) (pe_c c_law_name hr (by decide) (by rfl) (pa_cons (pv 1) (pa_cons (pv 0) pa_nil))))
      (pss_cons (ps_set (i := 7) S.nd rfl (by first | exact .inl rfl | exact .inr rfl) (pe_tup (pa_cons (pe_tup (pa_cons (pe_op op_add pe_int (pe_c c_law_draw hr (by decide) (by rfl) (pa_cons (pv 1) (pa_cons (pv 0) (pa_cons pe_int pa_nil))))) (pa_cons (pe_op op_add pe_int (pe_c c_law_draw hr (by decide) (by rfl) (pa_cons (pv 1) (pa_cons (pv 0) (pa_cons pe_int pa_nil))))) pa_nil))) pa_nil)))
      (pss_cons (ps_set (i := 8) S.nd rfl (by first | exact .inl rfl | exact .inr rfl) (pe_c c_law_draw hr (by decide) (by rfl) (pa_cons (pv 1) (pa_cons (pv 0) (pa_cons pe_int pa_nil)))))
      (C8.pss_cut (ps_if (pt_cmpR op_lt (pv 8) pe_int (nomark _))
      (pss_cons (ps_set (i := 9) S.nd rfl (by first | exact .inl rfl | exact .inr rfl) (pe_c c_law_content hr (by decide) (by rfl) (pa_cons (pv 1) (pa_cons (pv 0) (pa_cons pe_int pa_nil)))))
        (C8.pss_cut (ps_if (pt_cmpR (op_notInD (un65 hr)) (pe_tup (pa_cons (pv 6) (pa_cons (pv 7) (pa_cons (pv 9) pa_nil)))) (pv 3) (by first | rfl | with_unfolding_all rfl))
        (pss_one (ps_expr (pe_bm PySem.F.plainAttrs_list PySem.F.slot_list_append PySem.F.type_list_append mt_append (pv 3) (pa_cons (pe_tup (pa_cons (pv 6) (pa_cons (pv 7) (pa_cons (pv 9) pa_nil)))) pa_nil))))
        pss_nil)
        (pss_cons (ps_set (i := 10) S.nd rfl (by first | exact .inl rfl | exact .inr rfl) (pe_c c_law_tidied hr (by decide) (by rfl) (pa_cons (pv 3) (pa_cons (pe_fld (pv 5) rfl) (pa_cons (pe_fld (pv 5) rfl) pa_nil)))))
        (pss_one (ps_if (pt_cmpR (op_neP hr.units) (pe_c c_keep hr (by decide) (by rfl) (pa_cons (pv 2) (pa_cons (pv 5) (pa_cons (pv 6) (pa_cons (pv 7) (pa_cons (pe_callTy call_list_of (by rfl) T.f_list (by first | rfl | decide +kernel) (pa_cons (pv 9) pa_nil)) pa_nil)))))) (pv 10) (nomark _))
        (pss_one (ps_ret pe_bl))
        pss_nil)))))
      (pss_one (ps_if (pt_cmpR op_eq (pv 8) pe_int (nomark _))
        (pss_one (ps_if (pt_cmpR (op_neP hr.units) (pe_c c_tidy hr (by decide) (by rfl) (pa_cons (pv 2) (pa_cons (pv 5) pa_nil))) (pe_c c_law_tidied hr (by decide) (by rfl) (pa_cons (pv 3) (pa_cons (pe_fld (pv 5) rfl) (pa_cons (pe_fld (pv 5) rfl) pa_nil)))) (nomark _))
          (pss_one (ps_ret pe_bl))
          pss_nil))
        (pss_cons (ps_set (i := 11) S.nd rfl (by first | exact .inl rfl | exact .inr rfl) (pe_callB call_len_seq (by rfl) T.f_len (by first | rfl | decide +kernel) (pa_cons (pe_lc (own := [("one", 12)]) (g := gName 12) rfl S.nd (pi_list (pv 3)) (blkOk_by (N := N_law) (sc := defScope s_law) (by decide +kernel)) (fun _ _ _ _ _ => (pg_name (i := 12) S.nd rfl (by first | exact .inl rfl | exact .inr rfl))) (fun _ _ _ _ _ => (pts_one (pt_cmpR (ePK K hr.units) (pe_slice (slT K) (pv 12) po_none (po_some pe_int)) (pe_tup (pa_cons (pv 6) (pa_cons (pv 7) pa_nil))) (nomark _)))) (fun _ _ _ _ _ => (pv 12))) pa_nil)))
          (pss_cons (ps_setLc (i := 3) (own := [("one", 12)]) (g := gName 12) rfl S.nd rfl rfl (sw_true rfl rfl rfl (by decide +kernel)) (pi_list (pv 3)) (blkOk_by (N := N_law) (sc := defScope s_law) (by decide +kernel)) (fun _ _ _ _ _ => (pg_name (i := 12) S.nd rfl (by first | exact .inl rfl | exact .inr rfl))) (fun _ _ _ _ _ => (pts_one (pt_cmpR (nPK K hr.units) (pe_slice (slT K) (pv 12) po_none (po_some pe_int)) (pe_tup (pa_cons (pv 6) (pa_cons (pv 7) pa_nil))) (nomark _)))) (fun _ _ _ _ _ => (pv 12)))
          (pss_one (ps_if (pt_cmpR op_ne (pe_c c_let_go hr (by decide) (by rfl) (pa_cons (pv 2) (pa_cons (pv 6) (pa_cons (pv 7) pa_nil)))) (pv 11) (nomark _))
          (pss_one (ps_ret pe_bl))
          pss_nil)))))))
      (pss_cons (ps_if (pw_or (pt_cmpR (op_neP hr.units) (C8.pe_mt0 m_Store_attic hr (by decide) (pv 2)) (pv 3) (nomark _)) (pw_or1 (pt_cmpR op_ne (pe_c c_size_of hr (by decide) (by rfl) (pa_cons (pv 2) pa_nil)) (pe_callB (cr_sum rfl) (by rfl) T.f_sum (by first | rfl | decide +kernel) (pa_cons (pe_lc (own := [("one", 12)]) (g := gName 12) (tt := tYes) rfl S.nd (pi_list (pv 3)) (blkOk_by (N := N_law) (sc := defScope s_law) (by decide +kernel)) (fun _ _ _ _ _ => (pg_name (i := 12) S.nd rfl (by first | exact .inl rfl | exact .inr rfl))) (fun _ _ _ _ _ => pts_nil) (fun _ _ _ _ _ => (pe_callB (lenSK K) (by rfl) T.f_len (by first | rfl | decide +kernel) (pa_cons (pe_ix (ixT K) (pv 12) pe_int (fun _ _ => rfl)) pa_nil)))) pa_nil)) (nomark _)))).pt
      (pss_one (ps_ret pe_bl))
      pss_nil)
      (pss_one (ps_if (pt_cmpR (op_neP hr.units) (pe_c c_kept hr (by decide) (by rfl) (pa_cons (pv 2) (pa_cons (pv 6) pa_nil))) (pe_lc (own := [("one", 12)]) (g := gName 12) rfl S.nd (pi_list (pv 3)) (blkOk_by (N := N_law) (sc := defScope s_law) (by decide +kernel)) (fun _ _ _ _ _ => (pg_name (i := 12) S.nd rfl (by first | exact .inl rfl | exact .inr rfl))) (fun _ _ _ _ _ => (pts_one (pt_cmpR op_eq (pe_ix (ixT K) (pv 12) pe_int (fun _ _ => rfl)) (pv 6) (nomark _)))) (fun _ _ _ _ _ => (pe_tup (pa_cons (pe_ix (ixT K) (pv 12) pe_int (fun _ _ => rfl)) (pa_cons (pe_ix (ixT K) (pv 12) pe_int (fun _ _ => rfl)) pa_nil))))) (nomark _))
      (pss_one (ps_ret pe_bl))
      pss_nil)))))))))
    (pss_one (ps_ret (pe_and (pe_cmpR (op_eqC e_Rule hr (by decide)) (C8.pe_mk c_Rule hr (by decide) (by rfl) (pa_cons pe_int (pa_cons pe_int pa_nil))) (C8.pe_mk c_Rule hr (by decide) (by rfl) (pa_cons pe_int (pa_cons pe_int pa_nil))) (nomark _)) (pe_and (pe_not (pe_cmpR (op_eqC e_Rule hr (by decide)) (C8.pe_mk c_Rule hr (by decide) (by rfl) (pa_cons pe_int (pa_cons pe_int pa_nil))) (C8.pe_mk c_Rule hr (by decide) (by rfl) (pa_cons pe_int (pa_cons pe_int pa_nil))) (nomark _))) (pe_one (pe_not (pe_cmpR (op_eqC e_Rule hr (by decide)) (C8.pe_mk c_Rule hr (by decide) (by rfl) (pa_cons pe_int (pa_cons pe_int pa_nil))) (pe_tup (pa_cons pe_int (pa_cons pe_int pa_nil))) (nomark _)))))))))))), ?_⟩
    try dsimp only [cxOf, Cx.nox]
    have st0 : STT K := ⟨T.cl_Store, T.no_Store__files, T.no_Store__temps, T.no_Store__attic, T.no_Store__log, T.no_Store__new_log, T.no_Store__budget, T.no_Store__done⟩
    obtain ⟨_, rfl, sc, ns, rfl, hL, hn, k⟩ := h
    walk_at "go"
    rename_i st hst
    have d0 := Dr.start hL hst hn
    generalize upd H st (.lst [.int 0, .int 0]) = Hb at d0 ⊢
    refine e_dnewK fun fd hfd => ?_
    have s1 := same_new (o := .dK []) hfd
    walk_at "go"
    rename_i lg hlg
    have s2 := same_new (o := .lst []) hlg
    intro a dxs ha hdxs nda
    have s12 := s1.trans s2
    have sG : Same Hb _ := s12.trans (Same.mut (o := .ins (cSto K) dxs []) (same_new (o := .own a) hdxs) ha)
    have eFd := (Same.mut (o := .ins (cSto K) dxs []) (same_new (o := .own a) hdxs) ha) _ _ (s2 _ _ (upd_same (H := Hb) (a := fd) (o := .dK [])))
    have eLg := (Same.mut (o := .ins (cSto K) dxs []) (same_new (o := .own a) hdxs) ha) _ _ (upd_same (a := lg) (o := .lst []))
    have hab := s12.free ha
    have dG := d0.same sG
    have alG : Al [st] _ := fun b m => by
      obtain ⟨x, y, _, _, h⟩ := dG.s
      rw [List.mem_singleton.mp m]; exact ⟨[.int x, .int y], h⟩
    refine ⟨_, _, _, rfl, a, fd, lg, dxs, [], [], [st], rfl, rfl, rfl, upd_same, eFd, .nil, by simp, by decide, SqL.of eLg, alG, fun F H3 hk hF hS => ⟨rfl, ?_⟩⟩
    have f3 : Fr [a] _ H3 := fun b o n e => hk b (fun z => n (List.mem_singleton.mpr z)) o e
    obtain ⟨k3, d3⟩ := drFr d0 (Kp.of sG) dG f3 (fun x m => by rw [List.mem_singleton.mp m]; exact hab)
    have hFb : ∀ b ∈ F, Hb b = none := fun b m => (hF b m).elim (fun z => by rw [z]; exact hab) fun z => sG.free z
    clear alG eFd eLg hk hF f3 dG sG s12 s1 s2 hlg hfd ha hdxs
    walk_at "go"
    rename_i lo hlo
    have s4 := same_new (o := .lst []) hlo
    have v0 : Av K st sc ns a lo Hb (upd H3 lo (.lst [])) F [] [] := ⟨k3.trans (Kp.of s4), d3.same s4, ⟨0, hS.same fun y o h => by
      obtain ⟨n, h⟩ := hid_some h
      have n2 : y ≠ lo := ne_of_none h hlo
      have n1 : y ≠ st := fun z => n (by rw [z]; simp)
      rw [hid_at (by simp [n1, n2]), upd_ne n2]
      exact h⟩, ⟨[], upd_same, .nil⟩, hFb, dr_free d3 k3 hlo, d3.ne hlo⟩
    generalize upd H3 lo (.lst []) = H4 at v0 ⊢
    clear s4 hlo hS d3 k3 hFb
    have dd := v0.d
    walk_at "go"
    intro m1 H5 a5 b5 k5 d5
    have v5 := v0.kp k5 d5
    walk_at "go"
    refine for_rng (fun i σ H6 => (∃ lo v4 v5 v6 v7 v8 v9 v10 v11, σ = [some (.ref sc), some (.ref st), some (.ref a), some (.ref lo), v4, v5, v6, v7, v8, v9, v10, v11, none] ∧ ∃ l, Av K st sc ns a lo Hb H6 F l l ∧ l.length ≤ i ∧ ∀ r ∈ l, r.1 ∈ S6)) ⟨lo, _, _, _, _, _, _, _, _, rfl, [], v5, Nat.le_refl _, fun _ m => by cases m⟩ (fun i σ H6 hi q => ?_) (fun σ H6 q => ?_)
    · clear dd v0 v5 k5 d5
      obtain ⟨lo, v4, v5, v6, v7, v8, v9, v10, v11, rfl, l, v, hl, h6⟩ := q
      have dd := v.d
      walk_at "go"
      intro e1 H7 a7 b7 k7 d7
      have w7 := v.kp k7 d7
      walk_at "go"
      intro t1 H8 a8 b8 k8 d8
      have w8 := w7.kp k8 d8
      obtain ⟨e, rfl⟩ := Int.eq_ofNat_of_zero_le a7
      obtain ⟨t, rfl⟩ := Int.eq_ofNat_of_zero_le a8
      clear v dd w7 k7 d7 k8 d8
      walk_at "go"
      refine e_mkR fun ra H9 hra s9 R9 => ?_
      have w9 := w8.same s9
      have R9 := R9.hide (D := st :: lo :: F) (w8.out hra)
      clear w8 s9 hra
      walk_at "go"
      refine ⟨_, _, rfl, st, sc, ns, rfl, rfl, w9.d, fun nm H10 k10 d10 hnm => ?_⟩
      have w10 := w9.kp k10 d10
      have R10 := R9.same (hk_st (lo := lo) (F := F) k10)
      have hnm := names_in nm hnm
      clear w9 R9 k10
      walk_at "go"
      intro x1 H11 a11 b11 k11 d11
      have w11 := w10.kp k11 d11
      have R11 := R10.same (hk_st (lo := lo) (F := F) k11)
      clear w10 R10 k11 d10
      walk_at "go"
      intro x2 H12 a12 b12 k12 d12
      have w12 := w11.kp k12 d12
      have R12 := R11.same (hk_st (lo := lo) (F := F) k12)
      clear w11 R11 k12 d11
      walk_at "go"
      rename_i u1 hu1 u2 hu2
      have t1 := same_new (o := .tup [.int (1 + x1), .int (1 + x2)]) hu1
      have t2 := same_new (o := .tup [.ref u1]) hu2
      have t12 := t1.trans t2
      have w13 := w12.same t12
      have R13 := R12.same (hid_same t12)
      have V13 : Vec K (upd (upd H12 u1 (.tup [.int (1 + x1), .int (1 + x2)])) u2 (.tup [.ref u1])) u2 [(1 + x1, 1 + x2)] := ⟨[u1], SqT.of upd_same, .cons (SqT.of (t2 _ _ upd_same)) .nil⟩
      generalize upd (upd H12 u1 (.tup [.int (1 + x1), .int (1 + x2)])) u2 (.tup [.ref u1]) = H13 at w13 R13 V13 ⊢
      generalize [(1 + x1, 1 + x2)] = vc at V13
      have V13 := vec_hid V13 fun d m => (w13.nt d m).2
      clear w12 R12 t12 t1 t2 hu1 hu2 d12
      have d13 := w13.d
      walk_at "go"
      intro kd H14 a14 b14 k14 d14
      have w14 := w13.kp k14 d14
      have R14 := R13.same (hk_st (lo := lo) (F := F) k14)
      have V14 := V13.same (hk_st (lo := lo) (F := F) k14)
      clear w13 R13 V13 k14 d13
      have hl14 : l.length ≤ 30 := by omega
      refine e_cut (Mid := fun σ' H' => (∃ lo' v4 v9 v10 v11, σ' = [some (.ref sc), some (.ref st), some (.ref a), some (.ref lo'), v4, some (.ref ra), some (.str nm), some (.ref u2), some (.int kd), v9, v10, v11, none] ∧ ∃ l', Av K st sc ns a lo' Hb H' F l' l' ∧ l'.length ≤ i + 1 ∧ ∀ r ∈ l', r.1 ∈ S6)) ?_ ?_
      · walk_at "go"
        refine i_d (fun z1 => ?_) (fun z1 => ?_)
        · have c1 := T.cl_Rule
          have c2 := T.no_Rule_each
          have c3 := T.no_Rule_total
          walk_at "go"
          refine ⟨_, _, _, rfl, st, sc, ns, 2, rfl, rfl, rfl, by decide, w14.d, fun c bs H15 hc k15 d15 e15 b15 l15 => ?_⟩
          have w15 := w14.kp k15 d15
          have R15 := R14.same (hk_st (lo := lo) (F := F) k15)
          have V15 := V14.same (hk_st (lo := lo) (F := F) k15)
          have oc := w14.out hc
          have ec15 : hid (st :: lo :: F) H15 c = some (.lst (bs.map V.int)) := by rw [hid_at oc]; exact e15
          clear w14 R14 V14 k15 hc e15
          walk_at "go"
          refine e_cut (Mid := fun σ' H' => (∃ v4 v10 v11, σ' = [some (.ref sc), some (.ref st), some (.ref a), some (.ref lo), v4, some (.ref ra), some (.str nm), some (.ref u2), some (.int kd), some (.ref c), v10, v11, none]) ∧ Av K st sc ns a lo Hb H' F l (putA l (nm, (vc, bs))) ∧ Rul K (hid (st :: lo :: F) H') ra e t ∧ Vec K (hid (st :: lo :: F) H') u2 vc ∧ hid (st :: lo :: F) H' c = some (.lst (bs.map V.int))) ?_ ?_
          · walk_at "go"
            rename_i tt htt
            have s16 := same_new (o := .tup [.str nm, .ref u2, .ref c]) htt
            have w16 := w15.same s16
            have R16 := R15.same (hid_same s16)
            have V16 := V15.same (hid_same s16)
            have ec16 := (hid_same (D := st :: lo :: F) s16) _ _ ec15
            have hAt : AttA K (hid (st :: lo :: F) (upd H15 tt (.tup [.str nm, .ref u2, .ref c]))) tt (nm, (vc, bs)) := ⟨u2, c, by rw [hid_at (w15.out htt), upd_same], V16, ec16⟩
            generalize upd H15 tt (.tup [.str nm, .ref u2, .ref c]) = H16 at w16 R16 V16 ec16 hAt ⊢
            clear s16 htt w15 R15 V15 ec15
            obtain ⟨qs, elo, hq⟩ := w16.q
            walk_at "go"
            refine ⟨rowD (nm, (vc, bs)), l.map rowD, dp_row (hAt.same hid_sub), .lst (SqL.of elo) (dp_rows (ats_same hq hid_sub)), row_shaped _ hnm, rows_shaped _ h6, ?_⟩
            walk_at "go"
            refine i_nb (fun z => ?_) (fun z => ?_)
            · have ep : putA l (nm, (vc, bs)) = l ++ [(nm, (vc, bs))] := by
                unfold putA isinR
                rw [z]; rfl
              walk_at "go"
              rename_i t2 ht2
              have s17 := same_new (o := .tup [.str nm, .ref u2, .ref c]) ht2
              have w17 := w16.same s17
              have R17 := R16.same (hid_same s17)
              have V17 := V16.same (hid_same s17)
              have ec17 := (hid_same (D := st :: lo :: F) s17) _ _ ec16
              have hAt2 : AttA K (hid (st :: lo :: F) (upd H16 t2 (.tup [.str nm, .ref u2, .ref c]))) t2 (nm, (vc, bs)) := ⟨u2, c, by rw [hid_at (w16.out ht2), upd_same], V17, ec17⟩
              obtain ⟨xs, exs, lxs, w18⟩ := w17.add d0 hAt2
              refine ⟨lo, xs, _, rfl, rfl, exs, by rw [lxs]; exact Nat.lt_of_le_of_lt (by omega : _ ≤ 1000) (by decide), ⟨_, _, _, rfl⟩, by rw [ep]; exact w18, ?_, ?_, ?_⟩
              · rw [hid_upd_in (by simp)]; exact R17
              · rw [hid_upd_in (by simp)]; exact V17
              · rw [hid_upd_in (by simp)]; exact ec17
            · have ep : putA l (nm, (vc, bs)) = l := by
                unfold putA isinR
                rw [z]; rfl
              walk_at "go"
              exact ⟨⟨_, _, _, rfl⟩, by rw [ep]; exact w16, R16, V16, ec16⟩
          · rintro σ' H' ⟨⟨v4, v10, v11, rfl⟩, w16, R16, V16, ec16⟩
            clear w15 R15 V15 ec15
            have hall : ∀ x ∈ putA l (nm, (vc, bs)), x.1 ∈ S6 := fun x hx => by
              unfold putA at hx
              split at hx
              · exact h6 x hx
              · rcases List.mem_append.mp hx with m | m
                · exact h6 x m
                · rw [List.mem_singleton.mp m]; exact hnm
            have hlen : (putA l (nm, (vc, bs))).length ≤ l.length + 1 := by
              unfold putA
              split
              · omega
              · rw [List.length_append, List.length_singleton]; omega
            obtain ⟨qs, elo, hq⟩ := w16.q
            walk_at "go"
            refine r_each c1 c2 (R16.same hid_sub) ?_
            walk_at "go"
            refine r_total c1 c3 (R16.same hid_sub) ?_
            walk_at "go"
            refine ⟨_, _, _, rfl, lo, qs, st :: lo :: F, _, e, t, rfl, rfl, rfl, elo, by simp, hq, by omega, hall, fun g gs qs' H17 hg k17 elo17 q17 eg qg => ?_⟩
            have w17 := w16.lot d0 k17 elo17 q17
            have R17 := R16.same (hk_lo (st := st) (F := F) k17)
            have V17 := V16.same (hk_lo (st := st) (F := F) k17)
            have ec17 := (hk_lo (st := st) (F := F) k17) _ _ ec16
            have og := w16.out hg
            have ec17' := hid_sub _ _ ec17
            walk_at "go"
            intro c2 hc2
            have s18 := same_new (o := .lst (bs.map V.int)) hc2
            have w18 := w17.same s18
            have R18 := R17.same (hid_same s18)
            have V18 := V17.same (hid_same s18)
            have oc2 := w17.out hc2
            have ec2 := upd_same (H := H17) (a := c2) (o := .lst (bs.map V.int))
            have eg18 := s18 _ _ eg
            have qg18 := ats_same qg (hid_same s18)
            generalize upd H17 c2 (.lst (bs.map V.int)) = H18 at w18 R18 V18 ec2 eg18 qg18 ⊢
            clear s18 hc2 w17 R17 V17 w16 R16 V16 ec16 ec17' ec17 k17 eg qg q17 elo17 hg
            obtain ⟨n18, st18⟩ := w18.s
            walk_at "go"
            refine ⟨_, _, _, _, _, rfl, a, ra, u2, c2, F, [st, lo], _, e, t, nm, vc, bs, rfl, rfl, rfl, rfl, rfl, w18.lists, st18, R18.same (hid_le fun b m => by simp [m]), V18.same hid_sub, ec2, fun m => oc2 (by rcases List.mem_cons.mp m with z | m; (· rw [z]; simp); (· rw [List.mem_singleton.mp m]; simp)), by show l.length ≤ 50; omega, h6, hnm, fun g2 gs2 H19 n2 hg2 f19 st19 e19 q19 ng => ?_⟩
            have w19 := w18.fr d0 f19 st19
            have eg19 := f19 _ _ (fun m => og (by simp [m])) eg18
            have qg19 := ats_same qg18 (hk_fr (st := st) (lo := lo) f19)
            walk_at "go"
            refine e_neRows e19 (ats_same q19 hid_sub) eg19 (ats_same qg19 hid_sub) ?_
            walk_at "go"
            exact ⟨lo, _, _, _, _, rfl, _, w19, Nat.le_trans (tid_len e t (putA l (nm, (vc, bs)))) (by omega), fun r m => hall r (tid_mem e t _ r m)⟩
        · walk_at "go"
          refine i_d (fun z2 => ?_) (fun z2 => ?_)
          · have c1 := T.cl_Rule
            have c2 := T.no_Rule_each
            have c3 := T.no_Rule_total
            obtain ⟨n14, st14⟩ := w14.s
            walk_at "go"
            refine ⟨_, _, rfl, a, ra, F, [st, lo], _, e, t, rfl, rfl, w14.lists, st14, R14.same (hid_le fun b m => by simp [m]), by show l.length ≤ 60; omega, h6, fun g gs H15 n hg f15 st15 e15 q15 ng => ?_⟩
            have w15 := w14.fr d0 f15 st15
            have R15 := R14.same (hk_fr (st := st) (lo := lo) f15)
            obtain ⟨qs, elo, hq⟩ := w15.q
            walk_at "go"
            refine r_each c1 c2 (R15.same hid_sub) ?_
            walk_at "go"
            refine r_total c1 c3 (R15.same hid_sub) ?_
            walk_at "go"
            refine ⟨_, _, _, rfl, lo, qs, st :: lo :: F, _, e, t, rfl, rfl, rfl, elo, by simp, hq, by omega, h6, fun g2 gs2 qs' H16 hg2 k16 elo16 q16 eg2 qg2 => ?_⟩
            have w16 := w15.lot d0 k16 elo16 q16
            have og := w14.out hg
            have eg16 := k16 _ _ (fun z => og (by rw [z]; simp)) e15
            have qg15 : Ats K (hid (st :: lo :: F) H15) gs (tidG e t l) := ats_same q15 (hid_le fun b m => List.mem_cons_of_mem _ m)
            have qg16 := ats_same qg15 (hk_lo (st := st) (F := F) k16)
            refine e_neRows eg16 (ats_same qg16 hid_sub) eg2 (ats_same qg2 hid_sub) ?_
            walk_at "go"
            exact ⟨lo, _, _, _, _, rfl, _, w16, Nat.le_trans (tid_len e t l) (by omega), fun r m => h6 r (tid_mem e t _ r m)⟩
          · obtain ⟨qs, elo, hq⟩ := w14.q
            have lq : qs.length = l.length := paired_len hq
            have hq' := ats_same hq hid_sub
            have V14' := V14.same hid_sub
            walk_at "go"
            intro D5 hD5
            refine lc_relF (walk_list (K := K) (xs := qs.map V.ref)) hD5 (by rw [List.length_map]; omega) (fun H5 s5 => s5.seq (SqL.of elo)) (fun i => (l.take i).filter (eqNV nm vc)) rfl (fun i hi => Nat.le_trans (List.length_filter_le ..) (by rw [List.length_take]; omega)) (fun _ _ _ => True) (fun _ _ _ _ _ _ => trivial) (fun i y H5 H6 C E acc hi s5 e5 hy hC hE => ?_) (fun H5 us s5 e5 pr => ?_)
            · obtain ⟨rfl, hx⟩ := hy
              rw [List.getElem?_map] at hx
              obtain ⟨q, hq9, rfl⟩ := Option.map_eq_some_iff.mp hx
              obtain ⟨rr, hrr, vv, c, t1, t2, t3⟩ := paired_get hq' i q hq9
              have t1' := s5 _ _ t1
              have t2' := t2.same s5
              have pt := filt_take (p := eqNV nm vc) hrr
              walk_at "go"
              refine e_slA (SqT.of t1') fun r H7 s7 hr7 => ?_
              walk_at "go"
              rename_i p9 hp9
              have s9 := same_new (o := .tup [.str nm, .ref u2]) hp9
              have sa := s7.trans s9
              refine e_eqPV (.tup (xs := [.str rr.1, .ref vv]) (same_tup s9 hr7) (.cons (.str _) (.cons (dp_vec (t2'.same sa)) .nil))) (.tup (SqT.of upd_same) (.cons (.str _) (.cons (dp_vec ((V14'.same s5).same sa)) .nil))) (by simp [PyData.plain, PyData.plainAll, dv_plain]) (by simp [PyData.plain, PyData.plainAll, dv_plain]) (by
                show PyData.depthAll _ + 1 ≤ 60
                have := dv_depth rr.2.1
                simp only [PyData.depthAll, PyData.depth]
                omega) (eqv_nv nm vc rr) ?_
              walk_at "go"
              refine i_b (fun z => ?_) (fun z => ?_)
              · walk_at "go"
                rw [if_pos z] at pt
                exact hC rr _ _ pt sa trivial
              · rw [if_neg (by rw [z]; simp), List.append_nil] at pt
                exact hE _ pt sa
            rw [List.length_map, lq, List.take_length] at pr
            have lus := paired_len pr
            have w15 := w14.same s5
            have V15 := V14.same (hid_same s5)
            clear w14 V14 R14 hq elo hq' V14' pr
            obtain ⟨qs, elo, hq⟩ := w15.q
            have lq : qs.length = l.length := paired_len hq
            have hq' := ats_same hq hid_sub
            have V15' := V15.same hid_sub
            walk_at "go"
            intro D6 hD6
            refine lc_relF (walk_list (K := K) (xs := qs.map V.ref)) hD6 (by rw [List.length_map]; omega) (fun H6 s6 => s6.seq (SqL.of elo)) (fun i => (l.take i).filter (fun r => !eqNV nm vc r)) rfl (fun i hi => Nat.le_trans (List.length_filter_le ..) (by rw [List.length_take]; omega)) (fun r v H6 => ∃ q, v = .ref q ∧ AttA K (hid (st :: lo :: F) H6) q r) (fun r v H6 H7 h s => ?_) (fun i y H6 H7 C E acc hi s6 e6 hy hC hE => ?_) (fun H6 us s6 e6 pr => ?_)
            · obtain ⟨q, h1, h2⟩ := h
              exact ⟨q, h1, h2.same (hid_same s)⟩
            · obtain ⟨rfl, hx⟩ := hy
              rw [List.getElem?_map] at hx
              obtain ⟨q, hq9, rfl⟩ := Option.map_eq_some_iff.mp hx
              obtain ⟨rr, hrr, hat⟩ := paired_get hq i q hq9
              obtain ⟨vv, c, t1, t2, t3⟩ := hat.same hid_sub
              have t1' := s6 _ _ t1
              have t2' := t2.same s6
              have pt := filt_take (p := fun r => !eqNV nm vc r) hrr
              walk_at "go"
              refine e_slA (SqT.of t1') fun r H8 s8 hr8 => ?_
              walk_at "go"
              rename_i p9 hp9
              have s9 := same_new (o := .tup [.str nm, .ref u2]) hp9
              have sa := s8.trans s9
              refine e_nePV (.tup (xs := [.str rr.1, .ref vv]) (same_tup s9 hr8) (.cons (.str _) (.cons (dp_vec (t2'.same sa)) .nil))) (.tup (SqT.of upd_same) (.cons (.str _) (.cons (dp_vec ((V15'.same s6).same sa)) .nil))) (by simp [PyData.plain, PyData.plainAll, dv_plain]) (by simp [PyData.plain, PyData.plainAll, dv_plain]) (by
                show PyData.depthAll _ + 1 ≤ 60
                have := dv_depth rr.2.1
                simp only [PyData.depthAll, PyData.depth]
                omega) (eqv_nv nm vc rr) ?_
              walk_at "go"
              refine i_nb (fun z => ?_) (fun z => ?_)
              · walk_at "go"
                rw [if_pos (by simp [z])] at pt
                refine hC rr _ _ pt sa ⟨q, rfl, hat.same fun y o hy => ?_⟩
                obtain ⟨ny, hy⟩ := hid_some hy
                have nD : y ∉ [D6] := fun m => by rw [List.mem_singleton.mp m, hD6] at hy; cases hy
                rw [hid_at ny, hid_at nD]
                exact sa _ _ (s6 _ _ hy)
              · rw [if_neg (by simp [z]), List.append_nil] at pt
                exact hE _ pt sa
            obtain ⟨os, rfl⟩ := all_refs us fun u m => by
              obtain ⟨i, hi⟩ := List.getElem?_of_mem m
              obtain ⟨r, _, q, e, _⟩ := paired_get pr i u hi
              exact ⟨q, e⟩
            rw [List.length_map, lq, List.take_length] at pr
            have po : Ats K (hid (st :: lo :: F) (hid [D6] H6)) os (l.filter fun r => !eqNV nm vc r) := prd_mk (by have := paired_len pr; rw [List.length_map] at this; exact this) fun i q r h1 h2 => by
              obtain ⟨r2, h3, q2, e7, h4⟩ := paired_get pr i (.ref q) (by rw [List.getElem?_map, h1]; rfl)
              cases e7
              rw [h2] at h3
              cases h3
              exact h4
            have w16 := w15.turn s6 hD6 e6 po
            have V16' := V15'.same s6
            obtain ⟨n16, st16⟩ := w16.s
            walk_at "go"
            refine ⟨_, _, _, rfl, a, u2, F, [st, D6], _, nm, vc, rfl, rfl, rfl, w16.lists, st16, V16', by show l.length ≤ 60; omega, fun H7 n f7 st7 => ?_⟩
            have w17 := w16.fr d0 f7 st7
            walk_at "go"
            rw [lus]
            refine i_neself ?_
            walk_at "go"
            exact ⟨D6, _, _, _, _, rfl, _, w17, Nat.le_trans (List.length_filter_le _ l) (by omega), fun r m => h6 r (List.mem_filter.mp m).1⟩
      · rintro σ' H' ⟨lo', v4, v9, v10, v11, rfl, l', v, hl', h6'⟩
        obtain ⟨n, st1⟩ := v.s
        have hS1 := st1.sub
        walk_at "go"
        refine ⟨_, rfl, a, F, [], _, rfl, hS1, (fun _ m => by cases m), by show l'.length ≤ 1000; omega, fun p qs H1 hp s1 e1 hQ => ?_⟩
        have v1 := v.same s1
        have hQ1 := ats_same hQ hid_sub
        obtain ⟨qs1, eq1, hq1⟩ := v1.q
        have lq1 : qs1.length = l'.length := paired_len hq1
        walk_at "go"
        refine e_neRows e1 hQ1 eq1 (ats_same hq1 hid_sub) ?_
        obtain ⟨n1, st2⟩ := v1.s
        have hq1' := ats_same hq1 hid_sub
        walk_at "go"
        refine ⟨_, rfl, a, F, _, rfl, st2.sub, by show l'.length ≤ 1000; omega, fun H2 s2 => ?_⟩
        have v2 := v1.same s2
        have eq2 := s2 _ _ eq1
        have hq2 := ats_same hq1' s2
        walk_at "go"
        intro D7 hD7
        refine lc_rel (walk_list (K := K) (xs := qs1.map V.ref)) hD7 (by rw [List.length_map]; omega) (fun H3 s3 => s3.seq (SqL.of eq2)) (fun i v _ => ∃ r, l'[i]? = some r ∧ v = .int (r.2.2.length : Nat)) (fun i v H1 H2 h s => h) (fun i y H3 H4 C E acc hi s3 e3 hy hC => ?_) (fun H3 us s3 e3 l3 hr => ?_)
        · obtain ⟨rfl, hx⟩ := hy
          rw [List.getElem?_map] at hx
          obtain ⟨q, hq, rfl⟩ := Option.map_eq_some_iff.mp hx
          obtain ⟨rr, hrr, vv, c, t1, t2, t3⟩ := paired_get hq2 i q hq
          have t1 := s3 _ _ t1
          have t3 := s3 _ _ t3
          walk_at "go"
          refine e_ixT (SqT.of t1) rfl ?_
          walk_at "go"
          rw [List.length_map]
          exact hC _ _ (Same.refl _) ⟨rr, hrr, rfl⟩
        have e7 := rel_ints (l := l') (fun r => ((r.2.2.length : Nat) : Int)) (by rw [l3, List.length_map, lq1]) hr
        rw [e7] at e3
        have v3 := v2.same s3
        have eq3 := s3 _ _ eq2
        have hq3 := ats_same hq2 s3
        walk_at "go"
        refine ⟨D7, _, rfl, SqL.of e3, ?_⟩
        rw [sum_tot]
        walk_at "go"
        refine i_neself ?_
        obtain ⟨n3, st3⟩ := v3.s
        walk_at "go"
        refine ⟨_, _, rfl, a, F, _, nm, rfl, rfl, st3.sub, by show l'.length ≤ 1000; omega, fun r ps H4 hr4 s4 e4 pk => ?_⟩
        have v4 := v3.same s4
        have eq4 := s4 _ _ eq3
        have hq4 := ats_same hq3 s4
        walk_at "go"
        intro D8 hD8
        refine lc_relF (walk_list (K := K) (xs := qs1.map V.ref)) hD8 (by rw [List.length_map]; omega) (fun H5 s5 => s5.seq (SqL.of eq4)) (fun i => (l'.take i).filter (isN nm)) rfl (fun i hi => Nat.le_trans (List.length_filter_le ..) (by rw [List.length_take]; omega)) (fun r v H5 => ∃ q, v = .ref q ∧ KpA K H5 q r) (fun r v H5 H6 h s => ?_) (fun i y H5 H6 C E acc hi s5 e5 hy hC hE => ?_) (fun H5 us s5 e5 pr => ?_)
        · obtain ⟨q, h1, h2⟩ := h
          exact ⟨q, h1, h2.same s⟩
        · obtain ⟨rfl, hx⟩ := hy
          rw [List.getElem?_map] at hx
          obtain ⟨q, hq, rfl⟩ := Option.map_eq_some_iff.mp hx
          obtain ⟨rr, hrr, vv, c, t1, t2, t3⟩ := paired_get hq4 i q hq
          have t1' := s5 _ _ t1
          have pt := filt_take (p := isN nm) hrr
          walk_at "go"
          refine e_ixT (SqT.of t1') rfl ?_
          walk_at "go"
          refine i_d (fun z => ?_) (fun z => ?_)
          · walk_at "go"
            refine e_ixT (SqT.of t1') rfl ?_
            walk_at "go"
            refine e_ixT (SqT.of t1') rfl ?_
            walk_at "go"
            rename_i u hu
            rw [if_pos (show isN nm rr = true from decide_eq_true z)] at pt
            have su := same_new (o := .tup [.ref vv, .ref c]) hu
            refine hC rr _ _ pt su ⟨u, rfl, vv, c, ?_, ?_, ?_⟩
            · rw [hid_at fun m => by rw [List.mem_singleton.mp m, e5] at hu; cases hu]
              exact upd_same
            · exact t2.same (same_hidN hD8 (s5.trans su))
            · exact same_hidN hD8 (s5.trans su) _ _ t3
          · rw [if_neg (show ¬ isN nm rr = true from by unfold isN; simpa using z), List.append_nil] at pt
            exact hE _ pt (Same.refl _)
        obtain ⟨ps2, rfl⟩ := all_refs us fun u m => by
          obtain ⟨i, hi⟩ := List.getElem?_of_mem m
          obtain ⟨r, _, q, e, _⟩ := paired_get pr i u hi
          exact ⟨q, e⟩
        rw [List.length_map, lq1, List.take_length] at pr
        have po : Paired (KpA K H5) ps2 (l'.filter (isN nm)) := prd_mk (by have := paired_len pr; rw [List.length_map] at this; exact this) fun i q r h1 h2 => by
          obtain ⟨r2, h3, q2, e8, h4⟩ := paired_get pr i (.ref q) (by rw [List.getElem?_map, h1]; rfl)
          cases e8
          rw [h2] at h3
          cases h3
          exact h4.same hid_sub
        refine e_neKps (s5 _ _ e4) (paired_imp (fun _ _ q => KpA.same q s5) pk) e5 po ?_
        walk_at "go"
        exact ⟨lo', _, _, _, _, _, _, _, _, rfl, l', v4.same s5, hl', h6'⟩
    · obtain ⟨lo, v4, v5, v6, v7, v8, v9, v10, v11, rfl, l, v, hl, h6⟩ := q
      have ct := T.ct_Rule
      walk_at "go"
      refine e_mkR fun r1 H7 h1 s1 R1 => ?_
      walk_at "go"
      refine e_mkR fun r2 H8 h2 s2 R2 => ?_
      refine e_eqRR (R1.same s2) R2 ?_
      rw [show (decide ((2 : Int) = 2) && decide ((3 : Int) = 3)) = true from rfl]
      walk_at "go"
      refine e_mkR fun r3 H9 h3 s3 R3 => ?_
      walk_at "go"
      refine e_mkR fun r4 H10 h4 s4 R4 => ?_
      refine e_eqRR (R3.same s4) R4 ?_
      rw [show (decide ((2 : Int) = 3) && decide ((3 : Int) = 2)) = false from rfl]
      walk_at "go"
      refine e_mkR fun r5 H11 h5 s5 R5 => ?_
      walk_at "go"
      rename_i tt htt
      have s6 := same_new (o := .tup [.int 1, .int 1]) htt
      refine e_eqRT ct (R5.same s6) upd_same ?_
      walk_at "go"
      exact k _
end
set_option maxHeartbeats 0
def d_Rule___init__ : He.DefD := ⟨("Rule", some "__init__"), "__init__", "Rule.__init__", defArgs s_Rule___init__, defBody s_Rule___init__, defScope s_Rule___init__, [], []⟩
def d_Rule___eq__ : He.DefD := ⟨("Rule", some "__eq__"), "__eq__", "Rule.__eq__", defArgs s_Rule___eq__, defBody s_Rule___eq__, defScope s_Rule___eq__, [], []⟩
def d_keep : He.DefD := ⟨("keep", none), "keep", "keep", defArgs s_keep, defBody s_keep, defScope s_keep, [], []⟩
def d_tidy : He.DefD := ⟨("tidy", none), "tidy", "tidy", defArgs s_tidy, defBody s_tidy, defScope s_tidy, [], []⟩
def d_indexes_of : He.DefD := ⟨("_indexes_of", none), "_indexes_of", "_indexes_of", defArgs s_indexes_of, defBody s_indexes_of, defScope s_indexes_of, [], []⟩
def d_bytes_of : He.DefD := ⟨("_bytes_of", none), "_bytes_of", "_bytes_of", defArgs s_bytes_of, defBody s_bytes_of, defScope s_bytes_of, [], []⟩
def d_let_go : He.DefD := ⟨("let_go", none), "let_go", "let_go", defArgs s_let_go, defBody s_let_go, defScope s_let_go, [], []⟩
def d_kept : He.DefD := ⟨("kept", none), "kept", "kept", defArgs s_kept, defBody s_kept, defScope s_kept, [], []⟩
def d_size_of : He.DefD := ⟨("size_of", none), "size_of", "size_of", defArgs s_size_of, defBody s_size_of, defScope s_size_of, [], []⟩
def d_Store___init__ : He.DefD := ⟨("Store", some "__init__"), "__init__", "Store.__init__", defArgs s_Store___init__, defBody s_Store___init__, defScope s_Store___init__, [], []⟩
def d_Store__count_write : He.DefD := ⟨("Store", some "_count_write"), "_count_write", "Store._count_write", defArgs s_Store__count_write, defBody s_Store__count_write, defScope s_Store__count_write, [], []⟩
def d_Store_attic : He.DefD := ⟨("Store", some "attic"), "attic", "Store.attic", defArgs s_Store_attic, defBody s_Store_attic, defScope s_Store_attic, [], []⟩
def d_Store_attic_put : He.DefD := ⟨("Store", some "attic_put"), "attic_put", "Store.attic_put", defArgs s_Store_attic_put, defBody s_Store_attic_put, defScope s_Store_attic_put, [], []⟩
def d_Store_attic_drop : He.DefD := ⟨("Store", some "attic_drop"), "attic_drop", "Store.attic_drop", defArgs s_Store_attic_drop, defBody s_Store_attic_drop, defScope s_Store_attic_drop, [], []⟩
def d_law_draw : He.DefD := ⟨("_law_draw", none), "_law_draw", "_law_draw", defArgs s_law_draw, defBody s_law_draw, defScope s_law_draw, [], []⟩
def d_law_name : He.DefD := ⟨("_law_name", none), "_law_name", "_law_name", defArgs s_law_name, defBody s_law_name, defScope s_law_name, [], []⟩
def d_law_content : He.DefD := ⟨("_law_content", none), "_law_content", "_law_content", defArgs s_law_content, defBody s_law_content, defScope s_law_content, [], []⟩
def d_law_tidied : He.DefD := ⟨("_law_tidied", none), "_law_tidied", "_law_tidied", defArgs s_law_tidied, defBody s_law_tidied, defScope s_law_tidied, [], []⟩
def d_law : He.DefD := ⟨("law", none), "law", "law", defArgs s_law, defBody s_law, defScope s_law, [], []⟩
def fn : List He.DefD := [d_Rule___init__, d_Rule___eq__, d_keep, d_tidy, d_indexes_of, d_bytes_of, d_let_go, d_kept, d_size_of, d_Store___init__, d_Store__count_write, d_Store_attic, d_Store_attic_put, d_Store_attic_drop, d_law_draw, d_law_name, d_law_content, d_law_tidied, d_law]
def ex : List (PySem.W.Frag → Bool) := [clsB "Rule", eqB "Rule"]
def fa : List He.Fa := [.glo "keep", .glo "tidy", .glo "_indexes_of", .glo "_bytes_of", .glo "let_go", .glo "kept", .glo "size_of", .glo "_law_draw", .glo "_law_name", .glo "_law_content", .glo "_law_tidied", .glo "law", .glo "Rule", .glo "Store", .free "enumerate", .free "int", .free "isinstance", .free "len", .free "list", .free "max", .free "range", .free "set", .free "sorted", .free "sum", .meth "Store" "_count_write", .meth "Store" "attic", .meth "Store" "attic_put", .meth "Store" "attic_drop", .cls "Rule", .noat "Rule" "each", .noat "Rule" "total", .mkr "Rule", .cls "Store", .noat "Store" "_files", .noat "Store" "_temps", .noat "Store" "_attic", .noat "Store" "_log", .noat "Store" "_new_log", .noat "Store" "_budget", .noat "Store" "_done", .mkr "Store"]
abbrev R : PySem.W.OpenRow := PySem.W.OpenLaw.row PySem.Challenge.rw_folderkin_k27_attics
abbrev hk : PySem.W.Hook := hookX 6 fa fn ex
def ob (s : PySem.W.SharedT) : AlX := obsXG 6 fa fn ex (HandSHeadRun.getT s)
theorem ob_eq (s : PySem.W.SharedT) : ob s = hk.obs s.abs := obsXG_eq (HandSHeadRun.getT_eq s)
theorem run (w : World) : HandSHeadRun.RunEq R (PySem.W.view R.prog [20]) hk ob 10000 ["_wall", "Rule", "keep", "tidy", "_indexes_of", "_bytes_of", "let_go", "kept", "size_of", "FolderkinError", "PowerCut", "Store", "_law_draw", "_law_name", "_law_content", "_law_tidied"] w := by
  intro os
  kernel_rfl
theorem facts {P : Program} {w : World} {K : PySem.W.Frag} {h : Heap} {mg : Str → Option Value} {f : Addr} (X : K.In h) (G : h.Ns mainGlobals mg) (hfa : mg ("law" : Str) = some (.ref f)) (cc : SaysX fa fn ex K) :
    ∃ fd : FuncData, (∀ (s : Shared) (v : Value), BindsTo s fd ⟨[v], []⟩ [("script", v)]) ∧ ∀ base : Heap, K.In base → base.Ns mainGlobals mg → FnOk P w K mg base CX0 5 f fd ["script"] (sp_law K) := by
  have c : He.SaysD fa fn K := cc.1
  have T : Txt K mg := ⟨He.free_ok X G (c.fact 14 (f := .free "enumerate") rfl), He.free_ok X G (c.fact 15 (f := .free "int") rfl), He.free_ok X G (c.fact 16 (f := .free "isinstance") rfl), He.free_ok X G (c.fact 17 (f := .free "len") rfl), He.free_ok X G (c.fact 18 (f := .free "list") rfl), He.free_ok X G (c.fact 19 (f := .free "max") rfl), He.free_ok X G (c.fact 20 (f := .free "range") rfl), He.free_ok X G (c.fact 21 (f := .free "set") rfl), He.free_ok X G (c.fact 22 (f := .free "sorted") rfl), He.free_ok X G (c.fact 23 (f := .free "sum") rfl), He.cls_ok (c.fact 28 (f := .cls "Rule") rfl), He.glo_ok X G (c.fact 12 (f := .glo "Rule") rfl), He.noat_ok (c.fact 29 (f := .noat "Rule" "each") rfl), He.noat_ok (c.fact 30 (f := .noat "Rule" "total") rfl), clsB_ok (cc.more 0 rfl), He.cls_ok (c.fact 32 (f := .cls "Store") rfl), He.glo_ok X G (c.fact 13 (f := .glo "Store") rfl), He.noat_ok (c.fact 33 (f := .noat "Store" "_files") rfl), He.noat_ok (c.fact 34 (f := .noat "Store" "_temps") rfl), He.noat_ok (c.fact 35 (f := .noat "Store" "_attic") rfl), He.noat_ok (c.fact 36 (f := .noat "Store" "_log") rfl), He.noat_ok (c.fact 37 (f := .noat "Store" "_new_log") rfl), He.noat_ok (c.fact 38 (f := .noat "Store" "_budget") rfl), He.noat_ok (c.fact 39 (f := .noat "Store" "_done") rfl)⟩
  obtain ⟨fd_Rule___init__, F_Rule___init__⟩ := c.def_ 0 (d := d_Rule___init__) rfl
  have M_Rule := He.mkr_ok (c.fact 31 (f := .mkr "Rule") rfl)
  have c_Rule : ∀ base : Heap, C8.Mak P w K mg base 1 "Rule" (He.ga K "Rule") (sp_Rule___init__ K) [] := fun base => ⟨_, _, _, [], M_Rule, ok_Rule___init__ T  F_Rule___init__, He.glo_ok X G (c.fact 12 (f := .glo "Rule") rfl), FunD.bindsN F_Rule___init__ fun _ _ _ _ _ _ us hl => match us, hl with | [_, _, _], _ => rfl, .nil⟩
  obtain ⟨fd_Rule___eq__, F_Rule___eq__⟩ := c.def_ 1 (d := d_Rule___eq__) rfl
  obtain ⟨q1_Rule, q2_Rule⟩ := He.ba (cc.more 1 rfl : eqB "Rule" K = true)
  have e_Rule : ∀ base : Heap, EqC P w K mg base 1 "Rule" (sp_Rule___eq__ K) := fun base => ⟨_, _, _, ok_Rule___eq__ T  F_Rule___eq__, He.eqO_ok q1_Rule, q2_Rule, FunD.bindsN F_Rule___eq__ fun _ _ _ _ _ _ us hl => match us, hl with | [_, _], _ => rfl⟩
  obtain ⟨fd_indexes_of, F_indexes_of⟩ := c.def_ 4 (d := d_indexes_of) rfl
  have c_indexes_of : ∀ base : Heap, Cal P w K mg base 1 "_indexes_of" (sp_indexes_of K) := fun base => ⟨_, _, ["rows", "name"], ok_indexes_of T  F_indexes_of, He.glo_ok X G (c.fact 2 (f := .glo "_indexes_of") rfl), F_indexes_of.kp, FunD.bindsN F_indexes_of fun _ _ _ _ _ _ us hl => match us, hl with | [_, _], _ => rfl⟩
  obtain ⟨fd_bytes_of, F_bytes_of⟩ := c.def_ 5 (d := d_bytes_of) rfl
  have c_bytes_of : ∀ base : Heap, Cal P w K mg base 1 "_bytes_of" (sp_bytes_of K) := fun base => ⟨_, _, ["rows"], ok_bytes_of T  F_bytes_of, He.glo_ok X G (c.fact 3 (f := .glo "_bytes_of") rfl), F_bytes_of.kp, FunD.bindsN F_bytes_of fun _ _ _ _ _ _ us hl => match us, hl with | [_], _ => rfl⟩
  obtain ⟨fd_Store___init__, F_Store___init__⟩ := c.def_ 9 (d := d_Store___init__) rfl
  have M_Store := He.mkr_ok (c.fact 40 (f := .mkr "Store") rfl)
  have c_Store : ∀ base : Heap, C8.Mak P w K mg base 1 "Store" (He.ga K "Store") (sp_Store___init__ K) [] := fun base => ⟨_, _, _, [], M_Store, ok_Store___init__ T  F_Store___init__, He.glo_ok X G (c.fact 13 (f := .glo "Store") rfl), FunD.bindsN F_Store___init__ fun _ _ _ _ _ _ us hl => match us, hl with | [_, _, _], _ => rfl, .nil⟩
  obtain ⟨fd_Store__count_write, F_Store__count_write⟩ := c.def_ 10 (d := d_Store__count_write) rfl
  have m_Store__count_write : ∀ base : Heap, C8.Met P w K mg base 1 (He.ga K "Store") "_count_write" (sp_Store__count_write K) [] := fun base => ⟨_, _, ["self"], [], He.cls_ok (c.fact 32 (f := .cls "Store") rfl), He.meth_ok (c.fact 24 (f := .meth "Store" "_count_write") rfl), ok_Store__count_write T  F_Store__count_write, FunD.bindsN F_Store__count_write fun _ _ _ _ _ _ us hl => match us, hl with | [_], _ => rfl, .nil⟩
  obtain ⟨fd_Store_attic, F_Store_attic⟩ := c.def_ 11 (d := d_Store_attic) rfl
  have m_Store_attic : ∀ base : Heap, C8.Met P w K mg base 1 (He.ga K "Store") "attic" (sp_Store_attic K) [] := fun base => ⟨_, _, ["self"], [], He.cls_ok (c.fact 32 (f := .cls "Store") rfl), He.meth_ok (c.fact 25 (f := .meth "Store" "attic") rfl), ok_Store_attic T  F_Store_attic, FunD.bindsN F_Store_attic fun _ _ _ _ _ _ us hl => match us, hl with | [_], _ => rfl, .nil⟩
  obtain ⟨fd_law_draw, F_law_draw⟩ := c.def_ 14 (d := d_law_draw) rfl
  have c_law_draw : ∀ base : Heap, Cal P w K mg base 1 "_law_draw" (spDraw K) := fun base => ⟨_, _, ["state", "script", "size"], ok_law_draw T  F_law_draw, He.glo_ok X G (c.fact 7 (f := .glo "_law_draw") rfl), F_law_draw.kp, FunD.bindsN F_law_draw fun _ _ _ _ _ _ us hl => match us, hl with | [_, _, _], _ => rfl⟩
  obtain ⟨fd_law_tidied, F_law_tidied⟩ := c.def_ 17 (d := d_law_tidied) rfl
  have c_law_tidied : ∀ base : Heap, Cal P w K mg base 1 "_law_tidied" (sp_law_tidied K) := fun base => ⟨_, _, ["lots", "each", "total"], ok_law_tidied T  F_law_tidied, He.glo_ok X G (c.fact 10 (f := .glo "_law_tidied") rfl), F_law_tidied.kp, FunD.bindsN F_law_tidied fun _ _ _ _ _ _ us hl => match us, hl with | [_, _, _], _ => rfl⟩
  obtain ⟨fd_kept, F_kept⟩ := c.def_ 7 (d := d_kept) rfl
  have c_kept : ∀ base : Heap, Cal P w K mg base 2 "kept" (sp_kept K) := fun base => ⟨_, _, ["store", "name"], ok_kept T (m_Store_attic base) F_kept, He.glo_ok X G (c.fact 5 (f := .glo "kept") rfl), F_kept.kp, FunD.bindsN F_kept fun _ _ _ _ _ _ us hl => match us, hl with | [_, _], _ => rfl⟩
  obtain ⟨fd_size_of, F_size_of⟩ := c.def_ 8 (d := d_size_of) rfl
  have c_size_of : ∀ base : Heap, Cal P w K mg base 2 "size_of" (sp_size_of K) := fun base => ⟨_, _, ["store"], ok_size_of T (c_bytes_of base) (m_Store_attic base) F_size_of, He.glo_ok X G (c.fact 6 (f := .glo "size_of") rfl), F_size_of.kp, FunD.bindsN F_size_of fun _ _ _ _ _ _ us hl => match us, hl with | [_], _ => rfl⟩
  obtain ⟨fd_Store_attic_put, F_Store_attic_put⟩ := c.def_ 12 (d := d_Store_attic_put) rfl
  have m_Store_attic_put : ∀ base : Heap, C8.Met P w K mg base 2 (He.ga K "Store") "attic_put" (sp_Store_attic_put K) [] := fun base => ⟨_, _, ["self", "name", "vector", "content"], [], He.cls_ok (c.fact 32 (f := .cls "Store") rfl), He.meth_ok (c.fact 26 (f := .meth "Store" "attic_put") rfl), ok_Store_attic_put T (m_Store__count_write base) F_Store_attic_put, FunD.bindsN F_Store_attic_put fun _ _ _ _ _ _ us hl => match us, hl with | [_, _, _, _], _ => rfl, .nil⟩
  obtain ⟨fd_Store_attic_drop, F_Store_attic_drop⟩ := c.def_ 13 (d := d_Store_attic_drop) rfl
  have m_Store_attic_drop : ∀ base : Heap, C8.Met P w K mg base 2 (He.ga K "Store") "attic_drop" (sp_Store_attic_drop K) [] := fun base => ⟨_, _, ["self", "index"], [], He.cls_ok (c.fact 32 (f := .cls "Store") rfl), He.meth_ok (c.fact 27 (f := .meth "Store" "attic_drop") rfl), ok_Store_attic_drop T (m_Store__count_write base) F_Store_attic_drop, FunD.bindsN F_Store_attic_drop fun _ _ _ _ _ _ us hl => match us, hl with | [_, _], _ => rfl, .nil⟩
  obtain ⟨fd_law_name, F_law_name⟩ := c.def_ 15 (d := d_law_name) rfl
  have c_law_name : ∀ base : Heap, Cal P w K mg base 2 "_law_name" (sp_law_name K) := fun base => ⟨_, _, ["state", "script"], ok_law_name T (c_law_draw base) F_law_name, He.glo_ok X G (c.fact 8 (f := .glo "_law_name") rfl), F_law_name.kp, FunD.bindsN F_law_name fun _ _ _ _ _ _ us hl => match us, hl with | [_, _], _ => rfl⟩
  obtain ⟨fd_law_content, F_law_content⟩ := c.def_ 16 (d := d_law_content) rfl
  have c_law_content : ∀ base : Heap, Cal P w K mg base 2 "_law_content" (sp_law_content K) := fun base => ⟨_, _, ["state", "script", "most"], ok_law_content T (c_law_draw base) F_law_content, He.glo_ok X G (c.fact 9 (f := .glo "_law_content") rfl), F_law_content.kp, FunD.bindsN F_law_content fun _ _ _ _ _ _ us hl => match us, hl with | [_, _, _], _ => rfl⟩
  obtain ⟨fd_tidy, F_tidy⟩ := c.def_ 3 (d := d_tidy) rfl
  have c_tidy : ∀ base : Heap, Cal P w K mg base 3 "tidy" (sp_tidy K) := fun base => ⟨_, _, ["store", "rule"], ok_tidy T (m_Store_attic base) (c_indexes_of base) (m_Store_attic_drop base) (c_bytes_of base) F_tidy, He.glo_ok X G (c.fact 1 (f := .glo "tidy") rfl), F_tidy.kp, FunD.bindsN F_tidy fun _ _ _ _ _ _ us hl => match us, hl with | [_, _], _ => rfl⟩
  obtain ⟨fd_let_go, F_let_go⟩ := c.def_ 6 (d := d_let_go) rfl
  have c_let_go : ∀ base : Heap, Cal P w K mg base 3 "let_go" (sp_let_go K) := fun base => ⟨_, _, ["store", "name", "vector"], ok_let_go T (m_Store_attic base) (m_Store_attic_drop base) F_let_go, He.glo_ok X G (c.fact 4 (f := .glo "let_go") rfl), F_let_go.kp, FunD.bindsN F_let_go fun _ _ _ _ _ _ us hl => match us, hl with | [_, _, _], _ => rfl⟩
  obtain ⟨fd_keep, F_keep⟩ := c.def_ 2 (d := d_keep) rfl
  have c_keep : ∀ base : Heap, Cal P w K mg base 4 "keep" (sp_keep K) := fun base => ⟨_, _, ["store", "rule", "name", "vector", "content"], ok_keep T (m_Store_attic base) (m_Store_attic_put base) (c_tidy base) F_keep, He.glo_ok X G (c.fact 0 (f := .glo "keep") rfl), F_keep.kp, FunD.bindsN F_keep fun _ _ _ _ _ _ us hl => match us, hl with | [_, _, _, _, _], _ => rfl⟩
  obtain ⟨fd_law, F_law⟩ := c.def_ 18 (d := d_law) rfl
  have e := hfa.symm.trans (He.glo_ok X G (c.fact 11 (f := .glo "law") rfl))
  cases e
  have b := FunD.bindsA (ps := ["script"]) F_law fun _ _ _ _ _ _ us hl => match us, hl with | [_], _ => rfl
  exact ⟨fd_law, fun s v => b s [v] rfl, fun base _ _ => ok_law T (c_Store base) (c_Rule base) (c_law_draw base) (c_law_name base) (c_law_content base) (c_law_tidied base) (c_keep base) (c_tidy base) (c_let_go base) (c_size_of base) (m_Store_attic base) (c_kept base) (e_Rule base) F_law⟩
end Vk27
set_option maxHeartbeats 0
open PySem PySem.W PySem.Calls PyProof.Rows
theorem PySem.Challenge.cw_folderkin_k27_attics_holds : PySem.Challenge.rw_folderkin_k27_attics.Holds := by
  w_on; o_law
  refine HandSHeadRun.head_any (r := OpenLaw.row PySem.Challenge.rw_folderkin_k27_attics) (q := view (OpenLaw.row PySem.Challenge.rw_folderkin_k27_attics).prog [20]) (H := Vk27.hk) (ob := Vk27.ob) (M := 10000) (loose := ["_wall", "Rule", "keep", "tidy", "_indexes_of", "_bytes_of", "let_go", "kept", "size_of", "FolderkinError", "PowerCut", "Store", "_law_draw", "_law_name", "_law_content", "_law_tidied"]) (d := HandSHeadRun.topDef (OpenLaw.row PySem.Challenge.rw_folderkin_k27_attics).prog 20) (kwd := []) Vk27.ob_eq
    (by kernel_rfl) (fun s => by kernel_rfl) Vk27.run (by kernel_rfl) (by kernel_rfl) (by kernel_rfl) (by rfl) (by first | assumption | decide +kernel) (by decide +kernel) ⟨rfl, rfl, rfl, rfl, rfl, by decide +kernel⟩ ?hw ?hc
  case hw => w_witness2
  case hc =>
    refine L2.walk_ofE (l := PySem.Challenge.rw_folderkin_k27_attics) (n := 63) (k := 5) (x := "script") (CX := L2.CX0) rfl (by decide) (by kernel_rfl) ⟨rfl, by decide, by decide⟩ ?F (fun _ _ _ _ z => z)
    intro w mg fa h Y G hmg0
    obtain ⟨K, KX, c⟩ := Y
    have hmg : mg ("law" : PySem.Str) = some (.ref fa) := by
      have e : (HandSHeadRun.topDef (OpenLaw.row PySem.Challenge.rw_folderkin_k27_attics).prog 20).name = ("law" : PySem.Str) := by kernel_rfl
      rw [← e]
      exact hmg0
    obtain ⟨fd, hb, hF⟩ := Vk27.facts (P := (PySem.Challenge.rw_folderkin_k27_attics).prog) (w := w) KX G hmg c
    exact ⟨K, fd, Vk27.sp_law K, KX, hb, fun H a ns hl _ hS => ⟨_, rfl, a, ns, rfl, hS, hl, fun _ => rfl⟩, hF⟩
