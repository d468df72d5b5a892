import PyProof.Rows.All
import Wide.All
import OpenK.AllK
import Wide.FinOn
import KE.KStateDown
import HandS.ForMost
import HandS.Codes
import HandS.Defaults
import HandS.Flow
import HandS.Walk
import HandS.Wide
import HandS.IsInst
import HandS.Iter
import KE.GoesMore
import KE.GoesEnum
import KE.LtData
import KE.DataCmp
import HandS.WideBits
import HandS.RevRange
import HandS.TupLe
import HandS.TupAny
import HandS.Style
import HandS.Dict
import HandS.More
import KE.KDictPairs
import KE.OsGo
import HandS.ForSpec
import HandS.ExcIs
import KE.KExcIs
import HandS.Head0
import HandS.Head1
import HandS.Head2
import HandS.HeadEnd
import HandS.HeadHook1
import HandS.HeadHook2
import HandS.OwnEq
import HandS.MakeKw
import KE.DataEq
import HandS.DictTup
import HandS.Deep
import KE.KDictWalk
import HandS.Gcd
import HandS.Text
import HandS.StrMore
import HandS.SortKw
import KE.DataMinKey
import HandS.FStr
import PyProof.NeKinds
import HandS.DictComp
import HandS.SetKeys
import KE.KEqDict
import HandS.SetFor
import HandS.Strs
import KE.DataFind
import HandS.Zip
import KE.KDictZip
import PyProof.InstNe
import HandS.HotCalls
import KE.GoesRaise
import HandS.CallSlots
import HandS.TryOnly
import PyProof.TupleOfSeq
import HandS.SortRule
import Lean
import HandS.Head3
import PySem.Challenge.RW_folderkin_k55_sealed_entries_and_letters
set_option Elab.async false
set_option linter.all false
set_option maxRecDepth 100000
set_option maxHeartbeats 4000000
namespace Vf
open PySem L2 PySem.Spec PyProof.Rows

/-- what is left of a loop, of a comprehension, behind what it walks -/
def ForB (J : It) (g : TG) (t : TS) (D : Ends) (σ : L2.St) (H1 : Hp) : Prop := ∃ W : Nat → Nat → L2.St → Hp → Prop, (∃ m, W 0 m σ H1) ∧ ∀ i m σ H, W i m σ H →
  (J.stop i H ∧ D.nx σ H) ∨ (J.go i H ∧ ∃ N : L2.St → Hp → Prop, (∀ σ' H', N σ' H' → ∃ m', m' < m ∧ W (i + 1) m' σ' H') ∧ ∀ x H', J.yld i H x H' → g x σ H' fun σ2 H2 => t { D with nx := N, ct := N, bk := D.nx } σ2 H2)
def LcB (J : It) (g : TG) (tt : TT) (te : TE) (vs : List Nat) (σ : L2.St) (D : Addr) (H1 : Hp) (Q : VK) : Prop := ∃ W : Nat → Nat → Hp → Prop, (∃ m, W 0 m (upd H1 D (.lst []))) ∧ ∀ i m H, W i m H →
  (J.stop i H ∧ Q (.ref D) H) ∨ (J.go i H ∧
    ∃ Nx : Hp → Prop, (∀ H', Nx H' → ∃ m', m' < m ∧ W (i + 1) m' H') ∧
    ∀ x H', J.yld i H x H' → g x (wipe σ vs) H' fun σ2 H2 => wipe σ2 vs = wipe σ vs ∧ tt σ2 H2 fun b H3 =>
    if b = true then te σ2 H3 fun y H4 => 
      ∃ acc, H4 D = some (.lst acc) ∧ acc.length < sizeLine ∧
      Nx (upd H4 D (.lst (acc ++ [y]))) else Nx H3)
section
variable {K : PySem.W.Frag} {g : TG} {t : TS} {D : Ends} {σ : L2.St} {H : Hp} {tt : TT} {te : TE} {vs : List Nat} {Q : VK} {Da : Addr}
/-- for c in z, a text: Pv by the signs gone -/
theorem for_str {z : Str} (Pv : List Nat → L2.St → Hp → Prop) (h0 : Pv [] σ H)
    (hs : ∀ (pre : List Nat) (c : Nat) (post : List Nat) σ H, z.cps.toList = pre ++ c :: post → Pv pre σ H → g (.str ⟨#[c]⟩) σ H fun σ2 H2 => t { D with nx := Pv (pre ++ [c]), ct := Pv (pre ++ [c]), bk := D.nx } σ2 H2)
    (hd : ∀ σ H, Pv z.cps.toList σ H → D.nx σ H) : ForB (Its z) g t D σ H := by
  refine for_it walk_str (fun i => Pv (z.cps.toList.take i)) (by simpa using h0) (fun _ _ _ _ _ => trivial) (fun i x σ H H' hi p y => ?_) (fun σ H p => ?_)
  · obtain ⟨e, c, hc, hx⟩ := y
    subst e hx
    have hc' : z.cps.toList[i]? = some c := by simpa using hc
    have hi' : i < z.cps.toList.length := by simpa using hi
    have e1 : z.cps.toList = z.cps.toList.take i ++ c :: z.cps.toList.drop (i + 1) := by
      have e2 := (List.getElem?_eq_some_iff.mp hc').2
      rw [← e2, List.getElem_cons_drop, List.take_append_drop]
    have e3 : z.cps.toList.take (i + 1) = z.cps.toList.take i ++ [c] := by
      rw [List.take_add_one, hc']; rfl
    rw [e3]
    exact hs _ c _ σ _ e1 p
  · refine hd σ H ?_
    have e : z.cps.toList.take z.cps.size = z.cps.toList := List.take_of_length_le (by simp)
    rw [← e]
    exact p
theorem lc_str {z : Str} (Pv : List Nat → Hp → Prop) (h0 : Pv [] (upd H Da (.lst [])))
    (hs : ∀ (pre : List Nat) (c : Nat) (post : List Nat) H, z.cps.toList = pre ++ c :: post → Pv pre H → g (.str ⟨#[c]⟩) (wipe σ vs) H fun σ2 H2 => wipe σ2 vs = wipe σ vs ∧ tt σ2 H2 fun b H3 =>
      if b = true then te σ2 H3 fun y H4 => ∃ acc, H4 Da = some (.lst acc) ∧ acc.length < sizeLine ∧ Pv (pre ++ [c]) (upd H4 Da (.lst (acc ++ [y]))) else Pv (pre ++ [c]) H3)
    (hd : ∀ H, Pv z.cps.toList H → Q (.ref Da) H) : LcB (Its z) g tt te vs σ Da H Q := by
  refine lc_it walk_str (fun i => Pv (z.cps.toList.take i)) (by simpa using h0) (fun _ _ _ _ => trivial) (fun i x H H' hi p y => ?_) (fun H p => ?_)
  · obtain ⟨e, c, hc, hx⟩ := y
    subst e hx
    have hc' : z.cps.toList[i]? = some c := by simpa using hc
    have e1 : z.cps.toList = z.cps.toList.take i ++ c :: z.cps.toList.drop (i + 1) := by
      have e2 := (List.getElem?_eq_some_iff.mp hc').2
      rw [← e2, List.getElem_cons_drop, List.take_append_drop]
    have e3 : z.cps.toList.take (i + 1) = z.cps.toList.take i ++ [c] := by
      rw [List.take_add_one, hc']; rfl
    rw [e3]
    exact hs _ c _ _ e1 p
  · refine hd H ?_
    have e : z.cps.toList.take z.cps.size = z.cps.toList := List.take_of_length_le (by simp)
    rw [← e]
    exact p
theorem for_rng {lo : Int} {n : Nat} (Pv : Nat → L2.St → Hp → Prop) (h0 : Pv 0 σ H)
    (hs : ∀ i σ H, i < n → Pv i σ H → g (.int (lo + i)) σ H fun σ2 H2 => t { D with nx := Pv (i + 1), ct := Pv (i + 1), bk := D.nx } σ2 H2) (hd : ∀ σ H, Pv n σ H → D.nx σ H) : ForB (Itr lo n) g t D σ H := for_range Pv h0 hs hd
theorem lc_rng {lo : Int} {n : Nat} (Pv : Nat → Hp → Prop) (h0 : Pv 0 (upd H Da (.lst [])))
    (hs : ∀ i H, i < n → Pv i H → g (.int (lo + i)) (wipe σ vs) H 
      fun σ2 H2 => wipe σ2 vs = wipe σ vs ∧ tt σ2 H2 fun b H3 =>
      if b = true then te σ2 H3 fun y H4 => ∃ acc, H4 Da = some (.lst acc) ∧ acc.length < sizeLine ∧ Pv (i + 1) (upd H4 Da (.lst (acc ++ [y]))) else Pv (i + 1) H3) (hd : ∀ H, Pv n H → Q (.ref Da) H) :
    LcB (Itr lo n) g tt te vs σ Da H Q := lc_range Pv h0 hs hd
/-- for x in xs, a list: Pv by what was taken -/
theorem for_lst {a : Addr} {xs : List V} (Pv : List V → L2.St → Hp → Prop) (h0 : Pv [] σ H) (hl : ∀ pre σ H, Pv pre σ H → SqL K H a xs)
    (hs : ∀ (pre : List V) (x : V) (post : List V) σ H, xs = pre ++ x :: post → Pv pre σ H → g x σ H fun σ2 H2 => t { D with nx := Pv (pre ++ [x]), ct := Pv (pre ++ [x]), bk := D.nx } σ2 H2)
    (hd : ∀ σ H, Pv xs σ H → D.nx σ H) : ForB (Itl K a) g t D σ H := by
  refine for_list (xs := xs) (fun i => Pv (xs.take i)) (by simpa using h0) (fun i σ H _ p => hl _ σ H p) (fun i x σ H hx p => ?_) (fun σ H p => ?_)
  · have e1 : xs = xs.take i ++ x :: xs.drop (i + 1) := by
      have e2 := (List.getElem?_eq_some_iff.mp hx).2
      rw [← e2, List.getElem_cons_drop, List.take_append_drop]
    have e3 : xs.take (i + 1) = xs.take i ++ [x] := by
      rw [List.take_add_one, hx]; rfl
    rw [e3]
    exact hs _ x _ σ H e1 p
  · rw [List.take_length] at p
    exact hd σ H p
theorem lc_lst {a : Addr} {xs : List V} (Pv : List V → Hp → Prop) (h0 : Pv [] (upd H Da (.lst []))) (hl : ∀ pre H, Pv pre H → SqL K H a xs)
    (hs : ∀ (pre : List V) (x : V) (post : List V) H, xs = pre ++ x :: post → Pv pre H → g x (wipe σ vs) H fun σ2 H2 => wipe σ2 vs = wipe σ vs ∧ tt σ2 H2 fun b H3 =>
      if b = true then te σ2 H3 fun y H4 => ∃ acc, H4 Da = some (.lst acc) ∧ acc.length < sizeLine ∧ Pv (pre ++ [x]) (upd H4 Da (.lst (acc ++ [y]))) else Pv (pre ++ [x]) H3)
    (hd : ∀ H, Pv xs H → Q (.ref Da) H) : LcB (Itl K a) g tt te vs σ Da H Q := by
  refine lc_list (xs := xs) (fun i => Pv (xs.take i)) (by simpa using h0) (fun i H _ p => hl _ H p) (fun i x H hx p => ?_) (fun H p => ?_)
  · have e1 : xs = xs.take i ++ x :: xs.drop (i + 1) := by
      have e2 := (List.getElem?_eq_some_iff.mp hx).2
      rw [← e2, List.getElem_cons_drop, List.take_append_drop]
    have e3 : xs.take (i + 1) = xs.take i ++ [x] := by
      rw [List.take_add_one, hx]; rfl
    rw [e3]
    exact hs _ x _ H e1 p
  · rw [List.take_length] at p
    exact hd H p
theorem for_tpl {a : Addr} {xs : List V} (Pv : List V → L2.St → Hp → Prop) (h0 : Pv [] σ H) (hl : ∀ pre σ H, Pv pre σ H → SqT K H a xs)
    (hs : ∀ (pre : List V) (x : V) (post : List V) σ H, xs = pre ++ x :: post → Pv pre σ H → g x σ H fun σ2 H2 => t { D with nx := Pv (pre ++ [x]), ct := Pv (pre ++ [x]), bk := D.nx } σ2 H2)
    (hd : ∀ σ H, Pv xs σ H → D.nx σ H) : ForB (Itt K a) g t D σ H := by
  refine for_tup (xs := xs) (fun i => Pv (xs.take i)) (by simpa using h0) (fun i σ H _ p => hl _ σ H p) (fun i x σ H hx p => ?_) (fun σ H p => ?_)
  · have e1 : xs = xs.take i ++ x :: xs.drop (i + 1) := by
      have e2 := (List.getElem?_eq_some_iff.mp hx).2
      rw [← e2, List.getElem_cons_drop, List.take_append_drop]
    have e3 : xs.take (i + 1) = xs.take i ++ [x] := by
      rw [List.take_add_one, hx]; rfl
    rw [e3]
    exact hs _ x _ σ H e1 p
  · rw [List.take_length] at p
    exact hd σ H p
end

/-! ### readings, one lemma a head -/
section
variable {σ : L2.St} {H : Hp} {Q : VK} {D : Ends} {te ta tb tx : TE} {tt tu : TT} {t u : TS} {as : TA} {r r' : R2} {x y v : V} {K : PySem.W.Frag}
theorem e_var {i : Nat} (h : σ[i]? = some (some v)) (q : Q v H) : tVar i σ H Q := ⟨v, h, q⟩
theorem e_c (q : Q v H) : tC v σ H Q := q
theorem e_op (q : ta σ H fun x H1 => tb σ H1 fun y H2 => r x y H2 Q) : tOp r ta tb σ H Q := q
theorem e_un {r : V → Hp → VK → Prop} (q : ta σ H fun x H1 => r x H1 Q) : tUn r ta σ H Q := q
theorem e_I0 {g : Int → Int → V} {i j : Int} (q : Q (g i j) H) : rI0 g (.int i) (.int j) H Q := ⟨i, j, rfl, rfl, q⟩
theorem e_I {C : Int → Int → Prop} {g : Int → Int → V} {i j : Int} (c : C i j) (q : Q (g i j) H) : rI C g (.int i) (.int j) H Q := ⟨i, j, rfl, rfl, c, q⟩
theorem e_U {g : Int → V} {i : Int} (q : Q (g i) H) : rU g (.int i) H Q := ⟨i, rfl, q⟩
theorem e_eq (s : scal x y = true) (q : Q (.bl (decide (x = y))) H) : rEq x y H Q := ⟨s, q⟩
theorem e_ne (s : scal x y = true) (q : Q (.bl (!decide (x = y))) H) : rNe x y H Q := ⟨s, q⟩
theorem e_eqI {i j : Int} (q : Q (.bl (decide (i = j))) H) : rEq (.int i) (.int j) H Q := ⟨rfl, by
  have e : decide (V.int i = V.int j) = decide (i = j) := by
    by_cases h : i = j
    · rw [h]; simp
    · rw [decide_eq_false h, decide_eq_false (fun z => h (V.int.inj z))]
  rw [e]; exact q⟩
theorem e_neI {i j : Int} (q : Q (.bl (!decide (i = j))) H) : rNe (.int i) (.int j) H Q := ⟨rfl, by
  have e : decide (V.int i = V.int j) = decide (i = j) := by
    by_cases h : i = j
    · rw [h]; simp
    · rw [decide_eq_false h, decide_eq_false (fun z => h (V.int.inj z))]
  rw [e]; exact q⟩
theorem e_eqS {i j : Str} (q : Q (.bl (decide (i = j))) H) : rEq (.str i) (.str j) H Q := ⟨rfl, by
  have e : decide (V.str i = V.str j) = decide (i = j) := by
    by_cases h : i = j
    · rw [h]; simp
    · rw [decide_eq_false h, decide_eq_false (fun z => h (V.str.inj z))]
  rw [e]; exact q⟩
theorem e_neS {i j : Str} (q : Q (.bl (!decide (i = j))) H) : rNe (.str i) (.str j) H Q := ⟨rfl, by
  have e : decide (V.str i = V.str j) = decide (i = j) := by
    by_cases h : i = j
    · rw [h]; simp
    · rw [decide_eq_false h, decide_eq_false (fun z => h (V.str.inj z))]
  rw [e]; exact q⟩
theorem e_eqB {i j : Bool} (q : Q (.bl (i == j)) H) : rEq (.bl i) (.bl j) H Q := ⟨rfl, by
  have e : decide (V.bl i = V.bl j) = (i == j) := by cases i <;> cases j <;> rfl
  rw [e]; exact q⟩
theorem e_neB {i j : Bool} (q : Q (.bl (i != j)) H) : rNe (.bl i) (.bl j) H Q := ⟨rfl, by
  have e : (!decide (V.bl i = V.bl j)) = (i != j) := by cases i <;> cases j <;> rfl
  rw [e]; exact q⟩
theorem e_test {Q : Bool → Hp → Prop} (q : te σ H fun x H' => ∃ k, x = .bl k ∧ Q k H') : tTest te σ H Q := q
theorem e_B {Q : Bool → Hp → Prop} (q : te σ H fun x H' => ∃ k, x = .bl k ∧ Q k H') : tB te σ H Q := q
theorem e_ex {b : Bool} {P : Bool → Prop} (q : P b) : ∃ k, V.bl b = .bl k ∧ P k := ⟨b, rfl, q⟩
theorem e_and {Q : Bool → Hp → Prop} (q : tt σ H fun c H1 => if c = true then tu σ H1 Q else Q false H1) : tAnd tt tu σ H Q := q
theorem e_or {Q : Bool → Hp → Prop} (q : tt σ H fun c H1 => if c = true then Q true H1 else tu σ H1 Q) : tOr tt tu σ H Q := q
theorem e_not {Q : Bool → Hp → Prop} (q : tt σ H fun c H1 => Q (!c) H1) : tNot tt σ H Q := q
theorem e_yes {Q : Bool → Hp → Prop} (q : Q true H) : tYes σ H Q := q
theorem e_andV (q : ta σ H fun x H1 => ∃ c, x = .bl c ∧ if c = true then tb σ H1 Q else Q (.bl false) H1) : tAndV ta tb σ H Q := q
theorem e_orV (q : ta σ H fun x H1 => ∃ c, x = .bl c ∧ if c = true then Q (.bl true) H1 else tb σ H1 Q) : tOrV ta tb σ H Q := q
theorem e_notV (q : ta σ H fun x H1 => ∃ c, x = .bl c ∧ Q (.bl (!c)) H1) : tNotV ta σ H Q := q
theorem e_if (q : tt σ H fun c H1 => if c = true then ta σ H1 Q else tb σ H1 Q) : tIf tt ta tb σ H Q := q
theorem e_chain (q : ta σ H fun x H1 => tb σ H1 fun y H2 => r x y H2 fun z H3 => ∃ k, z = .bl k ∧ (if k = true then tx σ H3 fun w' H4 => r' y w' H4 Q else Q (.bl false) H3)) : tChain r r' ta tb tx σ H Q := q
theorem e_seq (q : t { D with nx := u D } σ H) : tSeq t u D σ H := q
theorem e_next (q : D.nx σ H) : tNext D σ H := q
theorem e_break (q : D.bk σ H) : tBreak D σ H := q
theorem e_cont (q : D.ct σ H) : tCont D σ H := q
theorem e_drop (q : te σ H fun _ H1 => D.nx σ H1) : tDrop te D σ H := q
theorem e_ret (q : te σ H D.rt) : tRet te D σ H := q
theorem e_retN (q : D.rt .non H) : tRetN D σ H := q
theorem e_ifS (q : tt σ H fun b H1 => if b = true then t D σ H1 else u D σ H1) : tIfS tt t u D σ H := q
theorem e_asg {g : TG} (q : te σ H fun x H1 => g x σ H1 D.nx) : tAsg te g D σ H := q
theorem e_name {i : Nat} {Q : L2.St → Hp → Prop} (q : Q (σ.set i (some v)) H) : gName i v σ H Q := q
theorem e_sub {to ti : TE} {st : TSet} {Q : L2.St → Hp → Prop} (q : to σ H fun o H1 => ti σ H1 fun i H2 => st o i v H2 fun H3 => Q σ H3) : gSub to ti st v σ H Q := q
theorem e_aug {i : Nat} {ti : TIp} (h : σ[i]? = some (some x)) (q : te σ H fun y H1 => ti x y H1 fun z H2 => D.nx (σ.set i (some z)) H2) : tAug i te ti D σ H := ⟨x, h, q⟩
theorem e_nil {Q : List V → Hp → Prop} (q : Q [] H) : tNil σ H Q := q
theorem e_cons {Q : List V → Hp → Prop} (q : ta σ H fun x H1 => as σ H1 fun xs H2 => Q (x :: xs) H2) : tCons ta as σ H Q := q
theorem e_call {sp : Sp} {dvs : List V} {E : XK} (q : as σ H fun vs H1 => sp (vs ++ dvs) H1 Q E) : tCall sp dvs E as σ H Q := q
theorem e_CB {r : List V → Hp → VK → Prop} (q : as σ H fun vs H1 => r vs H1 Q) : tCB r as σ H Q := q
theorem e_tup (q : as σ H fun xs H1 => xs.length ≤ sizeLine ∧ ∀ p, H1 p = none → Q (.ref p) (upd H1 p (.tup xs))) : tTup as σ H Q := q
theorem e_lst (q : as σ H fun xs H1 => xs.length ≤ sizeLine ∧ ∀ p, H1 p = none → Q (.ref p) (upd H1 p (.lst xs))) : tLst as σ H Q := q
theorem e_sl {r : V → Option Int → Option Int → Hp → VK → Prop} {tl th : TO} (q : te σ H fun x H1 => tl σ H1 fun l H2 => th σ H2 fun u H3 => r x l u H3 Q) : tSl r te tl th σ H Q := q
theorem e_noP {Q : Option Int → Hp → Prop} (q : Q none H) : tNoPart σ H Q := q
theorem e_part {Q : Option Int → Hp → Prop} (q : te σ H fun x H1 => ∃ i, x = .int i ∧ Q (some i) H1) : tPart te σ H Q := q
theorem e_exI {i : Int} {P : Int → Prop} (q : P i) : ∃ k, V.int i = .int k ∧ P k := ⟨i, rfl, q⟩
theorem e_bm {T : String} {r : V → List V → Hp → VK → Prop} {to : TE} (q : to σ H fun x H1 => tyV K T x H1 ∧ as σ H1 fun xs H2 => r x xs H2 Q) : tBM K T r to as σ H Q := q
theorem e_for {wi : TI} {g : TG} (q : wi σ H fun J H1 => ForB J g t D σ H1) : tFor wi g t D σ H := q
theorem e_lc {wi : TI} {g : TG} {vs : List Nat} (q : wi σ H fun J H1 => ∀ D, H1 D = none → LcB J g tt te vs σ D H1 Q) : tLc wi g tt te vs σ H Q := q
theorem e_exS {i : Str} {P : Str → Prop} (q : P i) : ∃ k, V.str i = .str k ∧ P k := ⟨i, rfl, q⟩
theorem e_exR {a : Addr} {xs : List V} {P : Addr → Prop} (h : SqL K H a xs) (q : P a) : ∃ k, V.ref a = .ref k ∧ (∃ xs, SqL K H k xs) ∧ P k := ⟨a, rfl, ⟨xs, h⟩, q⟩
theorem e_exRT {a : Addr} {xs : List V} {P : Addr → Prop} (h : SqT K H a xs) (q : P a) : ∃ k, V.ref a = .ref k ∧ (∃ xs, SqT K H k xs) ∧ P k := ⟨a, rfl, ⟨xs, h⟩, q⟩
theorem e_rng1 {n : Int} {P : Int → Prop} (h1 : -(2 ^ 62) ≤ n) (h2 : n < 2 ^ 62) (q : P n) : ∃ j : Int, [V.int n] = [.int j] ∧ -(2 ^ 62) ≤ j ∧ j < 2 ^ 62 ∧ P j := ⟨n, rfl, h1, h2, q⟩
theorem e_rng2 {m n : Int} {P : Int → Int → Prop} (h : -(2 ^ 62) ≤ m ∧ m < 2 ^ 62 ∧ -(2 ^ 62) ≤ n ∧ n < 2 ^ 62) (q : P m n) : ∃ i j : Int, [V.int m, V.int n] = [.int i, .int j] ∧ (-(2 ^ 62) ≤ i ∧ i < 2 ^ 62 ∧ -(2 ^ 62) ≤ j ∧ j < 2 ^ 62) ∧ P i j := ⟨m, n, rfl, h, q⟩
theorem e_m0 {r : V → List V → Hp → VK → Prop} {to : TE} (q : to σ H fun x H1 => (∃ a, x = .str a) ∧ r x [] H1 Q) : tM0 r to σ H Q := q
theorem e_m1 {r : V → List V → Hp → VK → Prop} {to : TE} (q : to σ H fun x H1 => (∃ a, x = .str a) ∧ te σ H1 fun y H2 => r x [y] H2 Q) : tM1 r to te σ H Q := q
theorem e_slS {z : Str} {lo hi : Option Int} (h : z.length ≤ sizeLine) (q : Q (.str (cutS z lo hi)) H) : rSlS (.str z) lo hi H Q := ⟨z, rfl, h, q⟩
theorem e_iList {R : It → Hp → Prop} {tl : TE} (q : tl σ H fun x H1 => ∃ a, x = .ref a ∧ (∃ xs, SqL K H1 a xs) ∧ R (Itl K a) H1) : iList K tl σ H R := q
theorem e_iTup {R : It → Hp → Prop} {tl : TE} (q : tl σ H fun x H1 => ∃ a, x = .ref a ∧ (∃ xs, SqT K H1 a xs) ∧ R (Itt K a) H1) : iTup K tl σ H R := q
theorem e_iStr {R : It → Hp → Prop} {tl : TE} (q : tl σ H fun v H1 => ∃ x, v = .str x ∧ R (Its x) H1) : iStr tl σ H R := q
theorem e_iRng1 {R : It → Hp → Prop} (q : as σ H fun vs H1 => ∃ j : Int, vs = [.int j] ∧ -(2 ^ 62) ≤ j ∧ j < 2 ^ 62 ∧ R (Itr 0 j.toNat) H1) : iRng1 as σ H R := q
theorem e_iRng2 {R : It → Hp → Prop} (q : as σ H fun vs H1 => ∃ i j : Int, vs = [.int i, .int j] ∧ (-(2 ^ 62) ≤ i ∧ i < 2 ^ 62 ∧ -(2 ^ 62) ≤ j ∧ j < 2 ^ 62) ∧ R (Itr i (j - i).toNat) H1) : iRng2 as σ H R := q
theorem e_ixL {p : Addr} {xs : List V} {i : Int} (h : SqL K H p xs) (ha : atI xs i = some v) (q : Q v H) : rIxL K (.ref p) (.int i) H Q := ⟨p, xs, i, v, rfl, rfl, h, ha, q⟩
theorem e_ixT {p : Addr} {xs : List V} {i : Int} (h : SqT K H p xs) (ha : atI xs i = some v) (q : Q v H) : rIxT K (.ref p) (.int i) H Q := ⟨p, xs, i, v, rfl, rfl, h, ha, q⟩
theorem e_ixS {z : Str} {i : Int} {c : Nat} (hz : z.length ≤ sizeLine) (ha : atI z.cps.toList i = some c) (q : Q (.str ⟨#[c]⟩) H) : rIxS (.str z) (.int i) H Q := ⟨z, i, c, rfl, rfl, hz, ha, q⟩
theorem e_len {p : Addr} {ys : List V} (h : SqL K H p ys) (q : Q (.int ys.length) H) : ∃ p' ys', [V.ref p] = [V.ref p'] ∧ (SqL K H p' ys' ∨ SqT K H p' ys') ∧ Q (.int (ys'.length : Nat)) H := ⟨p, ys, rfl, .inl h, q⟩
theorem e_lenT {p : Addr} {ys : List V} (h : SqT K H p ys) (q : Q (.int ys.length) H) : ∃ p' ys', [V.ref p] = [V.ref p'] ∧ (SqL K H p' ys' ∨ SqT K H p' ys') ∧ Q (.int (ys'.length : Nat)) H := ⟨p, ys, rfl, .inr h, q⟩
theorem e_lenS {z : Str} (h : z.length ≤ sizeLine) (q : Q (.int z.length) H) : ∃ z', [V.str z] = [V.str z'] ∧ z'.length ≤ sizeLine ∧ Q (.int (z'.length : Nat)) H := ⟨z, rfl, h, q⟩
theorem e_int1 {i : Int} (q : Q (.int i) H) : (∃ i', [V.int i] = [V.int i'] ∧ Q (.int i') H) ∨ ∃ k, [V.int i] = [V.bl k] ∧ Q (.int (if k = true then 1 else 0)) H := .inl ⟨i, rfl, q⟩
theorem e_setL {p : Addr} {xs : List V} {k : Int} {j : Nat} {Q : Hp → Prop} (h : H p = some (.lst xs)) (hj : ixN xs.length k = some j) (q : Q (upd H p (.lst (xs.set j v)))) : rSetL (.ref p) (.int k) v H Q := ⟨p, xs, k, j, rfl, rfl, h, hj, q⟩
theorem e_cut {Mid : L2.St → Hp → Prop} (h1 : t { D with nx := Mid } σ H) (h2 : ∀ σ' H', Mid σ' H' → u D σ' H') : C8.tCut t u D σ H := ⟨Mid, h1, h2⟩
/-- a test that is known, or open -/
theorem i_T {A B : Prop} (h : A) : if true = true then A else B := by rw [if_pos rfl]; exact h
theorem i_F {A B : Prop} (h : B) : if false = true then A else B := by rw [if_neg Bool.false_ne_true]; exact h
theorem i_d {p : Prop} [Decidable p] {A B : Prop} (h1 : p → A) (h2 : ¬ p → B) : if decide p = true then A else B := by
  by_cases h : p
  · rw [decide_eq_true h]; exact i_T (h1 h)
  · rw [decide_eq_false h]; exact i_F (h2 h)
theorem i_nd {p : Prop} [Decidable p] {A B : Prop} (h1 : ¬ p → A) (h2 : p → B) : if (!decide p) = true then A else B := by
  by_cases h : p
  · rw [decide_eq_true h]; exact i_F (h2 h)
  · rw [decide_eq_false h]; exact i_T (h1 h)
theorem i_b {b : Bool} {A B : Prop} (h1 : b = true → A) (h2 : b = false → B) : if b = true then A else B := by
  cases b
  · exact i_F (h2 rfl)
  · exact i_T (h1 rfl)
theorem i_nself {b : Bool} {A B : Prop} (h : B) : if (!(b == b)) = true then A else B := by
  rw [beq_self_eq_true]; exact i_F h
theorem i_self {α : Type} [DecidableEq α] {x : α} {A B : Prop} (h : A) : if decide (x = x) = true then A else B := by
  rw [decide_eq_true rfl]; exact i_T h
theorem i_neself {α : Type} [DecidableEq α] {x : α} {A B : Prop} (h : B) : if (!decide (x = x)) = true then A else B := by
  rw [decide_eq_true rfl]; exact i_F h
theorem i_nb {b : Bool} {A B : Prop} (h1 : b = false → A) (h2 : b = true → B) : if (!b) = true then A else B := by
  cases b
  · exact i_T (h1 rfl)
  · exact i_F (h2 rfl)
end

section
variable {K : PySem.W.Frag} {H : Hp} {Q : VK}
theorem isi_ty {x : V} {t n : String} {b : Bool} (ty : TyX K H x (.type t)) (e : PySem.W.kitOne K (.type t) (.type n) = some b) (q : Q (.bl b) H) : rIsi K [x, .ty n] H Q := ⟨x, .ty n, _, _, b, rfl, .ty n, ty, e, q⟩
theorem isi_bb {x : Bool} (q : Q (.bl true) H) : rIsi K [.bl x, .ty "bool"] H Q := isi_ty (.base (.bl x)) (kit_ty (by decide +kernel)) q
theorem isi_ib {x : Int} (q : Q (.bl false) H) : rIsi K [.int x, .ty "bool"] H Q := isi_ty (.base (.int x)) (kit_ty (by decide +kernel)) q
theorem isi_bi {x : Bool} (q : Q (.bl true) H) : rIsi K [.bl x, .ty "int"] H Q := isi_ty (.base (.bl x)) (kit_ty (by decide +kernel)) q
theorem isi_ii {x : Int} (q : Q (.bl true) H) : rIsi K [.int x, .ty "int"] H Q := isi_ty (.base (.int x)) (kit_ty (by decide +kernel)) q
theorem isi_si {x : Str} (q : Q (.bl false) H) : rIsi K [.str x, .ty "int"] H Q := isi_ty (.base (.str x)) (kit_ty (by decide +kernel)) q
theorem isi_ni (q : Q (.bl false) H) : rIsi K [.non, .ty "int"] H Q := isi_ty (.base .non) (kit_ty (by decide +kernel)) q
theorem isi_tt {p : Addr} {xs : List V} (h : H p = some (.tup xs)) (q : Q (.bl true) H) : rIsi K [.ref p, .ty "tuple"] H Q := isi_ty (.base (.tup h)) (kit_ty (by decide +kernel)) q
theorem isi_ll {p : Addr} {xs : List V} (h : H p = some (.lst xs)) (q : Q (.bl true) H) : rIsi K [.ref p, .ty "list"] H Q := isi_ty (.base (.lst h)) (kit_ty (by decide +kernel)) q
theorem isi_lt {p : Addr} {xs : List V} (h : H p = some (.lst xs)) (q : Q (.bl false) H) : rIsi K [.ref p, .ty "tuple"] H Q := isi_ty (.base (.lst h)) (kit_ty (by decide +kernel)) q
end
/-! ### defs that are called by their names -/
structure Cal (P : Program) (w : World) (K : PySem.W.Frag) (mg : Str → Option Value) (base : Heap) (k : Nat) (x : Str) (sp : Sp) : Prop where
  ex : ∃ (f : Addr) (fd : FuncData) (ps : List Str), FnOk P w K mg base CX0 k f fd ps sp ∧ mg x = some (.ref f) ∧ PySem.W.keepIn K (.ref f) = true ∧ Binds K fd ps []
theorem pe_c {X : Cx} {k j : Nat} {x : Str} {sp : Sp} {p pos : Pos} {e : Expr} {es : List Expr} {t : TA} (c : Cal X.prog X.w X.K X.mg X.base k x sp) (hr : Room j X.A) (hk : k ≤ j) (hg : Gl X x) (ha : PA X (e :: es) t)
    (hdb : (x == ("__debug__" : Str)) = false := by decide) 
    (he : starEach (e :: es) X.env = (false, eval e X.env) :: starEach es X.env := by rfl) 
    (hpl : (backTo pos (starEach es X.env)).any (·.1) = false := by rfl) :
    PE X (.Call (.Name x p) (e :: es) [] pos) (tCall sp [] E0 t) := by
  obtain ⟨f, fd, ps, F, hm, kp, b⟩ := c.ex
  exact pe_call F (hr.mono hk) hg hm kp b .nil pass0 ha hdb he hpl
theorem pe_c0 {X : Cx} {k j : Nat} {x : Str} {sp : Sp} {p pos : Pos} (c : Cal X.prog X.w X.K X.mg X.base k x sp) (hr : Room j X.A) (hk : k ≤ j) (hg : Gl X x)
    (hdb : (x == ("__debug__" : Str)) = false := by decide) :
    PE X (.Call (.Name x p) [] [] pos) (tCall sp [] E0 tNil) := by
  obtain ⟨f, fd, ps, F, hm, kp, b⟩ := c.ex
  exact pe_call0 F (hr.mono hk) hg hm kp b .nil pass0 hdb

/-- promises by arity -/
abbrev sp0 (R : Hp → VK → Prop) : Sp := fun vs H Q _ => vs = [] ∧ R H Q
abbrev sp1 (R : V → Hp → VK → Prop) : Sp := fun vs H Q _ => ∃ a, vs = [a] ∧ R a H Q
abbrev sp2 (R : V → V → Hp → VK → Prop) : Sp := fun vs H Q _ => ∃ a b, vs = [a, b] ∧ R a b H Q
abbrev sp3 (R : V → V → V → Hp → VK → Prop) : Sp := fun vs H Q _ => ∃ a b c, vs = [a, b, c] ∧ R a b c H Q
abbrev sp4 (R : V → V → V → V → Hp → VK → Prop) : Sp := fun vs H Q _ => ∃ a b c d, vs = [a, b, c, d] ∧ R a b c d H Q


theorem sz_of {n : Nat} (h : n ≤ 1000000) : n ≤ sizeLine := Nat.le_trans h (by decide)
/-! ### heaps: all but one address as it was -/
def Kp (st : Addr) (H H' : Hp) : Prop := ∀ b o, b ≠ st → H b = some o → H' b = some o
theorem Kp.refl (st : Addr) (H : Hp) : Kp st H H := fun _ _ _ h => h
theorem Kp.trans {st : Addr} {H H1 H2 : Hp} (a : Kp st H H1) (b : Kp st H1 H2) : Kp st H H2 := fun c o n h => b c o n (a c o n h)
theorem Kp.of {st : Addr} {H H' : Hp} (a : Same H H') : Kp st H H' := fun c o _ h => a c o h
theorem same_new {H : Hp} {p : Addr} {o : HO} (h : H p = none) : Same H (upd H p o) := fun b x e => by
  rw [upd_ne (ne_of_none e h)]
  exact e
theorem Kp.new {st p : Addr} {H : Hp} {o : HO} (h : H p = none) : Kp st H (upd H p o) := Kp.of (same_new h)
/-- an object that was not there at first may change -/
theorem Kp.mut {st p : Addr} {H H' : Hp} {o : HO} (a : Kp st H H') (h : H p = none) : Kp st H (upd H' p o) := fun b x n e => by
  rw [upd_ne (ne_of_none e h)]
  exact a b x n e
theorem Kp.put {st : Addr} {H H' : Hp} {o : HO} (a : Kp st H H') : Kp st H (upd H' st o) := fun b x n e => by
  rw [upd_ne n]
  exact a b x n e
theorem Same.mut {p : Addr} {H H' : Hp} {o : HO} (a : Same H H') (h : H p = none) : Same H (upd H' p o) := fun b x e => by
  rw [upd_ne (ne_of_none e h)]
  exact a b x e
theorem Kp.free {st p : Addr} {H H' : Hp} (a : Kp st H H') (hs : ∃ o, H' st = some o) (h : H' p = none) : H p = none := by
  cases q : H p with
  | none => rfl
  | some o =>
    by_cases e : p = st
    · obtain ⟨o', h'⟩ := hs
      rw [e, h'] at h
      cases h
    · rw [a p o e q] at h
      cases h

/-- the state of the draws and the script: two ints at st, the script at sc whatever is drawn -/
structure Dr (K : PySem.W.Frag) (st sc : Addr) (ns : List Int) (H : Hp) : Prop where
  s : ∃ a b : Int, 0 ≤ a ∧ 0 ≤ b ∧ H st = some (.lst [.int a, .int b])
  sc : ∀ H', Kp st H H' → SqL K H' sc (ns.map V.int)
  len : ns.length ≤ 63
theorem Dr.kp {K : PySem.W.Frag} {st sc : Addr} {ns : List Int} {H H' : Hp} (d : Dr K st sc ns H) (k : Kp st H H') (s : ∃ a b : Int, 0 ≤ a ∧ 0 ≤ b ∧ H' st = some (.lst [.int a, .int b])) : Dr K st sc ns H' :=
  ⟨s, fun H2 k2 => d.sc H2 (k.trans k2), d.len⟩
theorem Dr.same {K : PySem.W.Frag} {st sc : Addr} {ns : List Int} {H H' : Hp} (d : Dr K st sc ns H) (k : Same H H') : Dr K st sc ns H' := by
  obtain ⟨a, b, h1, h2, h3⟩ := d.s
  exact d.kp (Kp.of k) ⟨a, b, h1, h2, k _ _ h3⟩
theorem Dr.seq {K : PySem.W.Frag} {st sc : Addr} {ns : List Int} {H : Hp} (d : Dr K st sc ns H) : SqL K H sc (ns.map V.int) := d.sc H (Kp.refl st H)
theorem sq_keep {K : PySem.W.Frag} {H H' : Hp} {a p : Addr} {xs : List V} (h : SqL K H a xs) (hp : H p = none) (k : Kp p H H') : SqL K H' a xs := by
  rcases h with (h | ⟨c9, h⟩) | h
  · exact .inl (.inl (k _ _ (ne_of_none h hp) h))
  · exact .inl (.inr ⟨c9, k _ _ (ne_of_none h hp) h⟩)
  · exact .inr h
theorem Dr.start {K : PySem.W.Frag} {st sc : Addr} {ns : List Int} {H : Hp} (h : SqL K H sc (ns.map V.int)) (hp : H st = none) (hl : ns.length ≤ 63) : Dr K st sc ns (upd H st (.lst [.int 0, .int 0])) :=
  ⟨⟨0, 0, by decide, by decide, upd_same⟩, fun H' k => sq_keep h hp fun b o n e => k b o n (by rw [upd_ne n]; exact e), hl⟩
theorem Dr.ne {K : PySem.W.Frag} {st sc p : Addr} {ns : List Int} {H : Hp} (d : Dr K st sc ns H) (h : H p = none) : p ≠ st := by
  obtain ⟨a, b, _, _, h3⟩ := d.s
  intro e
  rw [e, h3] at h
  cases h
theorem pick_int {l : List Int} {d : Int} (h0 : 0 ≤ d) (h1 : d < l.length) : ∃ n, n ∈ l ∧ atI (l.map V.int) d = some (.int n) := by
  have h : d.toNat < l.length := by omega
  exact ⟨l[d.toNat], List.getElem_mem h, at_of (j := d.toNat) (by omega) (by rw [List.getElem?_map, List.getElem?_eq_getElem h]; rfl)⟩
theorem pick_nat {l : List Nat} {d : Int} (h0 : 0 ≤ d) (h1 : d < l.length) : ∃ n, n ∈ l ∧ atI l d = some n := by
  have h : d.toNat < l.length := by omega
  obtain ⟨j, hj⟩ : ∃ j : Nat, d = (j : Int) := ⟨d.toNat, by omega⟩
  have h2 : j < l.length := by omega
  subst hj
  exact ⟨l[j], List.getElem_mem h2, atI_nat (List.getElem?_eq_getElem h2)⟩
theorem at_last {ns : List Int} (h : 0 < ns.length) : ∃ x, atI (ns.map V.int) (-1) = some (.int x) := by
  have e : ns = ns.dropLast ++ [ns.getLast (by intro q; rw [q] at h; cases h)] := (List.dropLast_concat_getLast _).symm
  rw [e, List.map_append]
  exact ⟨_, atI_last _ _⟩
theorem pick_sign {z : Str} {d : Int} (h0 : 0 ≤ d) (h1 : d < (z.length : Int)) : ∃ c, c ∈ z.cps.toList ∧ atI z.cps.toList d = some c :=
  pick_nat h0 (by simpa [Str.length] using h1)
theorem len_app (a b : Str) : (a ++ b).length = a.length + b.length := PySem.Str.length_append a b
/-- what a call behind which only the draws' state has changed hands on -/
def RDraw (K : PySem.W.Frag) (st sc : Addr) (ns : List Int) (H : Hp) (G : Hp → Prop) : Prop := Dr K st sc ns H ∧ ∀ H', Kp st H H' → Dr K st sc ns H' → G H'
theorem Dr.mut {K : PySem.W.Frag} {st sc p : Addr} {ns : List Int} {H0 H1 : Hp} {o : HO} (d0 : Dr K st sc ns H0) (d : Dr K st sc ns H1) (hp : H0 p = none) (k : Kp st H0 H1) : Dr K st sc ns (upd H1 p o) := by
  obtain ⟨a, b, h1, h2, h3⟩ := d.s
  exact d0.kp (k.mut hp) ⟨a, b, h1, h2, by rw [upd_ne (d0.ne hp).symm]; exact h3⟩
section
variable {K : PySem.W.Frag} {g : TG} {σ : L2.St} {te : TE} {vs : List Nat} {Q : VK} {Da st sc : Addr} {ns : List Int} {H0 : Hp}
/-- [e for k in range(..)], e with draws -/
theorem lc_dr {lo : Int} {n : Nat} (d0 : Dr K st sc ns H0) (hD : H0 Da = none) (hn : n ≤ 1000000) (Pe : V → Prop)
    (hs : ∀ (i : Nat) (H2 : Hp) (C : VK) (E : Hp → Prop), i < n → Kp st H0 H2 → Dr K st sc ns H2 → (∀ y H3, Kp st H2 H3 → Dr K st sc ns H3 → Pe y → C y H3) →
      g (.int (lo + i)) (wipe σ vs) H2 fun σ2 H2 => wipe σ2 vs = wipe σ vs ∧ tYes σ2 H2 fun b H3 => if b = true then te σ2 H3 C else E H3)
    (hd : ∀ (H : Hp) (xs : List V), Kp st H0 H → Dr K st sc ns H → H Da = some (.lst xs) → xs.length = n → (∀ x ∈ xs, Pe x) → Q (.ref Da) H) : LcB (Itr lo n) g tYes te vs σ Da H0 Q := by
  have nD := d0.ne hD
  refine lc_rng (fun i H2 => Kp st H0 H2 ∧ Dr K st sc ns H2 ∧ ∃ xs : List V, H2 Da = some (.lst xs) ∧ xs.length = i ∧ ∀ x ∈ xs, Pe x) ⟨Kp.new hD, d0.same (same_new hD), [], upd_same, rfl, fun _ hy => by cases hy⟩ (fun i H2 hi p => ?_) (fun H2 p => ?_)
  · obtain ⟨k4, d4, xs, e4, l4, o4⟩ := p
    refine hs i H2 _ _ hi k4 d4 fun y H3 k5 d5 hy => ?_
    refine ⟨xs, k5 _ _ nD e4, Nat.lt_of_le_of_lt (Nat.le_of_lt (by omega : xs.length < 1000001)) (by decide), (k4.trans k5).mut hD, Dr.mut d0 d5 hD (k4.trans k5), xs ++ [y], upd_same, by simp [l4], fun z hz => ?_⟩
    rcases List.mem_append.mp hz with h | h
    · exact o4 z h
    · rw [List.mem_singleton.mp h]; exact hy
  · obtain ⟨k4, d4, xs, e4, l4, o4⟩ := p
    exact hd H2 xs k4 d4 e4 l4 o4
/-- [e for k in range(..)], e a function of k -/
theorem lc_map_rng {lo : Int} {n : Nat} (hD : H0 Da = none) (hn : n ≤ 1000000) (f : Nat → V)
    (hs : ∀ (i : Nat) (H2 : Hp) (C : VK) (E : Hp → Prop), i < n → Same H0 H2 → (∀ H3, Same H2 H3 → C (f i) H3) →
      g (.int (lo + i)) (wipe σ vs) H2 fun σ2 H2 => wipe σ2 vs = wipe σ vs ∧ tYes σ2 H2 fun b H3 => if b = true then te σ2 H3 C else E H3)
    (hd : ∀ (H : Hp), Same H0 H → H Da = some (.lst ((List.range n).map f)) → Q (.ref Da) H) : LcB (Itr lo n) g tYes te vs σ Da H0 Q := by
  refine lc_rng (fun i H2 => Same H0 H2 ∧ H2 Da = some (.lst ((List.range i).map f))) ⟨same_new hD, upd_same⟩ (fun i H2 hi p => ?_) (fun H2 p => hd H2 p.1 p.2)
  obtain ⟨k4, e4⟩ := p
  refine hs i H2 _ _ hi k4 fun H3 k5 => ?_
  refine ⟨_, k5 _ _ e4, Nat.lt_of_le_of_lt (by simp; omega : _ ≤ 1000000) (by decide), Same.mut (k4.trans k5) hD, ?_⟩
  rw [upd_same, List.range_succ, List.map_append]
  rfl
/-- [e for x in xs], a list, e a function of x -/
theorem lc_map_lst {a : Addr} {xs : List V} (hS : SqL K H0 a xs) (hD : H0 Da = none) (hn : xs.length ≤ 1000000) (f : V → V)
    (hs : ∀ (x : V) (H2 : Hp) (C : VK) (E : Hp → Prop), x ∈ xs → Same H0 H2 → (∀ H3, Same H2 H3 → C (f x) H3) →
      g x (wipe σ vs) H2 fun σ2 H2 => wipe σ2 vs = wipe σ vs ∧ tYes σ2 H2 fun b H3 => if b = true then te σ2 H3 C else E H3)
    (hd : ∀ (H : Hp), Same H0 H → H Da = some (.lst (xs.map f)) → Q (.ref Da) H) : LcB (Itl K a) g tYes te vs σ Da H0 Q := by
  refine lc_lst (xs := xs) (fun pre H2 => Same H0 H2 ∧ H2 Da = some (.lst (pre.map f)) ∧ pre.length ≤ xs.length) ⟨same_new hD, upd_same, Nat.zero_le _⟩ (fun pre H2 p => p.1.seq hS) (fun pre x post H2 e p => ?_) (fun H2 p => hd H2 p.1 p.2.1)
  obtain ⟨k4, e4, l4⟩ := p
  refine hs x H2 _ _ (by rw [e]; simp) k4 fun H3 k5 => ?_
  refine ⟨_, k5 _ _ e4, Nat.lt_of_le_of_lt (by simp; omega : _ ≤ 1000000) (by decide), Same.mut (k4.trans k5) hD, ?_, by rw [e]; simp⟩
  rw [upd_same, List.map_append]
  rfl
end
/-- a draw: any number below the size -/
def spDraw (K : PySem.W.Frag) : Sp := sp3 fun a b c H Q => ∃ (st sc : Addr) (ns : List Int) (n : Int), a = .ref st ∧ b = .ref sc ∧ c = .int n ∧ Dr K st sc ns H ∧ 0 < n ∧ n < 2 ^ 60 ∧
  ∀ (d : Int) (H' : Hp), 0 ≤ d → d < n → Kp st H H' → Dr K st sc ns H' → Q (.int d) H'

abbrev FnP (K : PySem.W.Frag) (x : Str) (st : Stmt) (f : Addr) (fd : FuncData) : Prop :=
  FunD K x x (defArgs st) (defBody st) (defScope st) [] [] f fd
end Vf

namespace PySem
open Sem (wp)
theorem meets_enumerate_newTup (l : Addr) (row : Array Value) (ob : Obj) (cap : Nat) :
    Meets (Builtin.«enumerate.__new__» ⟨[.type "enumerate", .ref l], []⟩) (fun _ R s => (s.heap.get? l = some ob ∧ ob.cls = .type "tuple" ∧ ob.data = .seq row cap) ∧
      R (.ok (.ret (.ref (s.heap.push { cls := .type "tuple_iterator", data := .fields #[.ref l, .int 0 0] }).objs.size)))
        { s with heap := (s.heap.push { cls := .type "tuple_iterator", data := .fields #[.ref l, .int 0 0] }).push { cls := .type "enumerate", data := .fields #[.none, .bool false, .ref s.heap.objs.size, rawInt 0, .none, .none] } }) :=
  .of_wp fun prg w A R s h => by
    obtain ⟨hp, g, d, tk, os⟩ := s; obtain ⟨⟨hl9, wc, wd⟩, h⟩ := h
    have hsub := sub_enumerate
    have isT : Heap.IsTuple (Shared.heap ⟨hp, g, d, tk, os⟩) l row := ⟨_, hl9, wc, cap, wd⟩
    have q1 : ∀ {A' : Around} {E : Value → Shared → Prop} {Q : Value → Shared → Prop}, Q (.ref hp.objs.size) ⟨hp.push { cls := .type "tuple_iterator", data := .fields #[.ref l, .int 0 0] }, g, d, tk, os⟩ → wpAny (model prg w) A' (pyIter (.ref l)) Q E ⟨hp, g, d, tk, os⟩ :=
      fun q => wpAny_pyIter_tuple isT q
    wp_walk using q1
    refine wpAny_stack_any fun here => wpAny_pure ?_
    split
    · rename_i cls9 _ _ _ _ _
      cases (cls9 == Value.type "enumerate")
      · wp_walk using q1
        exact ⟨_, rfl, h⟩
      · wp_walk using q1
        exact ⟨_, rfl, h⟩
    · wp_walk using q1
      exact ⟨_, rfl, h⟩
section
variable {prg : Program} {w : World} {A : Around} {E : Value → Shared → Prop} {s : Shared}
/-- the object that enumerate makes, and the turning over a tuple -/
abbrev enOf (it : Addr) : Obj := { data := .fields #[.none, .bool false, .ref it, rawInt 0, .none, .none], cls := .type "enumerate" }
abbrev tiOf (l : Addr) : Obj := { data := .fields #[.ref l, .int 0 0], cls := .type "tuple_iterator" }
theorem call_enumerate_tup {l : Addr} {row : Array Value} {Q : Value → Shared → Prop} (isT : s.heap.IsTuple l row)
    (h : ∀ h', IsEnum h' (s.heap.objs.size + 1) s.heap.objs.size 0 .none → h'.IsTupleIter s.heap.objs.size l 0 → h'.objs.size = s.heap.objs.size + 2 →
      (∀ bb ob, s.heap.get? bb = some ob → h'.get? bb = some ob) → Q (.ref (s.heap.objs.size + 1)) { s with heap := h' }) :
    wpAny (model prg w) A
      (call (.type "enumerate") [.ref l]) Q E s := by
  obtain ⟨ob, hl9, wc, cap, wd⟩ := isT
  refine callType_new F.called_enumerate (by decide) (F.typeCall_enumerate_1 _)
    (F.newCall_enumerate_1 _) (fun it => F.args_object_init_2 it _) F.entry_enumerate_new (meets_enumerate_newTup l row ob cap) ⟨⟨hl9, wc, wd⟩, ?_⟩
  have szz : (s.heap.push (tiOf l)).objs.size = s.heap.objs.size + 1 := Heap.size_push ..
  show _ ∧ _
  rw [szz]
  have qe : IsEnum ((s.heap.push (tiOf l)).push
      (enOf s.heap.objs.size)) (s.heap.objs.size + 1) s.heap.objs.size 0 .none := by
    have := Heap.get?_push_size (s.heap.push (tiOf l))
      (o := enOf s.heap.objs.size) rfl
    rw [szz] at this; exact this
  refine ⟨⟨_, qe, rfl⟩, h _ qe ⟨_, Heap.get?_push_of_some _ (Heap.get?_push_size _ rfl), rfl, rfl⟩ (by rw [Heap.size_push, szz]) fun bb ob x => Heap.get?_push_of_some _ (Heap.get?_push_of_some _ x)⟩
theorem enumT_end {e it t : Addr} {i : Nat} {row : Array Value} {prev : Value} {Q : Option Value → Shared → Prop} (hh : A.handled = none)
    (qe : IsEnum s.heap e it i prev) (qi : s.heap.IsTupleIter it t i) (hl9 : s.heap.IsTuple t row) (ne2 : t ≠ it) (atx : row[i]? = none)
    (hQ : ∀ h', Heap.ExtBut it s.heap h' → Q none { s with heap := h' }) : wpAny (model prg w) A (pyNext (.ref e)) Q E s := by
  have ty1 : s.TypeIs (.ref e) "enumerate" := ⟨_, qe, rfl⟩
  unfold pyNext
  refine wpAny_bind (wpAny_attempt (wpAny_callSpecial?_slot (name := Str.ofString "__next__") ty1 F.slot_enumerate_next
    (wpAny_call_entry F.slot_enumerate_next ty1 F.entry_enumerate_next ?_ (F.args_enumerate_next_1 _))))
  show wpAny (model prg w) A.in1
    (field (.ref e) 2 >>= _) _ _ s
  refine wpAny_bind (wpAny_field qe rfl (x := .ref it) rfl ?_)
  refine wpAny_bind (wpAny_nextOf_tuple_end hh qi hl9 atx fun h' x he' hx' => ?_)
  obtain ⟨ob, wo, wc⟩ := hx'
  refine wpAny_bind (wpAny_isInstance (T := "StopIteration") (b := true) ⟨ob, wo, wc⟩ isSubtype_stop ?_)
  exact wpAny_pure (hQ _ he')
end
end PySem
namespace Vf
open PySem L2 PySem.Spec PyProof.Rows
/-- enumerate(t), t a tuple -/
def IteT (K : PySem.W.Frag) (a : Addr) : It :=
  ⟨fun i H => ∃ (xs : List V) (x : V), SqT K H a xs ∧ xs[i]? = some x, fun i H v H' => ∃ T x, v = .ref T ∧ H T = none ∧ H' = upd H T (.tup [.int (i : Nat), x]) ∧ ∀ xs, SqT K H a xs → xs[i]? = some x, fun i H => ∃ xs : List V, SqT K H a xs ∧ xs.length ≤ i⟩
theorem turn_enumT {P : Program} {w : World} {K : PySem.W.Frag} {elts : List Expr} {kk : Nat} {tpos : Pos} (a e it : Addr) :
    Turn P w K (.Tuple elts kk tpos) (IteT K a) [e, it] e (fun i h => (∃ prev, IsEnum h e it ((i : Nat) : Int) prev) ∧ h.IsTupleIter it a i ∧ e ≠ it) where
  mem := by simp
  obj := fun i h here bb mb => by
    obtain ⟨⟨prev, qe⟩, ⟨ob, wo, wc, wd⟩, _⟩ := here
    have e' : bb = e ∨ bb = it := by simpa using mb
    rcases e' with z | z
    · rw [z]; exact ⟨_, qe, fun v q => nomatch q⟩
    · rw [z]; exact ⟨ob, wo, fun v q => by rw [wd] at q; cases q⟩
  keep := fun i h h' here k => let ⟨⟨prev, qe⟩, hi9, qn⟩ := here; ⟨⟨prev, k e (by simp) _ qe⟩, hi9.at fun ob q => k it (by simp) ob q, qn⟩
  item := by
    intro X hP hw hK wc i pins s σ H E I fp here got
    subst hP hw hK
    obtain ⟨⟨prev, qe⟩, qi, qn⟩ := here
    obtain ⟨xs, x, wq, atx⟩ := got
    obtain ⟨cells, rds, p, szz⟩ := I.tuple wq
    obtain ⟨u, mu, rdu⟩ := rds.get atx
    have le1 : e < s.heap.objs.size := Heap.lt_size qe
    have le2 : it < s.heap.objs.size := by obtain ⟨_, q, _⟩ := qi; exact Heap.lt_size q
    have ne1 : a ≠ e := by
      intro z
      obtain ⟨ob, wo, hc2, _⟩ := p
      rw [z, qe] at wo
      cases wo
      injection hc2 with q
      exact absurd q (by decide)
    have ne2 : a ≠ it := by
      intro z
      obtain ⟨ob, wo, hc2, _⟩ := p
      obtain ⟨o2, ho2, hc3, _⟩ := qi
      rw [z, ho2] at wo
      cases wo
      rw [hc3] at hc2
      injection hc2 with q
      exact absurd q (by decide)
    have hlt : i < cells.toArray.size := by
      have := (List.getElem?_eq_some_iff.mp mu).1
      simpa using this
    refine wpAny_pyNext_enum_itemD (Draws.tuple (A := X.A.in1) (show X.A.in1.handled = none from I.ok.hd wc) it a ne2 cells.toArray) qe ⟨qi, p⟩ hlt qn (by simp [qn, Ne.symm ne1]) fun x' h' tk hP wo hst' ty1 hsz keep1 => ?_
    have ex : x' = u := by
      have q1 : cells[i]? = some x' := by simpa using hP
      exact Option.some.inj (q1.symm.trans mu)
    subst ex
    refine ⟨_, rfl, wpAny_letOwnedTupleGo_enum (s := { s with heap := h', toks := tk + 1 }) wo fun h'' he' only1 => ?_⟩
    have ty2 : h''.get? s.heap.objs.size = some { cls := .type "tuple", data := .seq #[.int i tk, x'] } := (only1.2 _ (Nat.ne_of_gt le1)).trans ty1
    have fresh1 : ObjOk X.prog X.w (upd H s.heap.objs.size (.tup [.int (i : Nat), x])) h'' s.heap.objs.size (.tup [.int (i : Nat), x]) :=
      ⟨by show 2 ≤ sizeLine; decide, [.int i tk, x'], .cons ⟨_, rfl⟩ (.cons rdu .nil), ⟨_, ty2, rfl, _, rfl⟩⟩
    have J1 : Inv X pins σ (upd H s.heap.objs.size (.tup [.int (i : Nat), x])) { s with heap := h'', toks := tk + 1 } :=
      I.turnedNew (ch := [e, it]) (fun bb ob mb q => (only1.2 bb (fun z => mb (by simp [z]))).trans (keep1 bb ob (fun z => mb (by simp [z])) (fun z => mb (by simp [z])) q)) fp (Nat.le_refl _) fresh1
    refine ⟨.ref s.heap.objs.size, _, J1, rfl, ⟨_, x, rfl, I.hok.fresh (Nat.le_refl _), rfl, fun ys hy => by rw [I.tuple_inj hy wq]; exact atx⟩, ⟨⟨x', ?_⟩, hst'.1.at fun ob q => (only1.2 it (Ne.symm qn)).trans q, qn⟩, fun bb mb => ?_⟩
    · have up1 : ((i + 1 : Nat) : Int) = (i : Int) + 1 := by
        omega
      rw [up1]; exact he'
    · have below : bb < s.heap.objs.size := by
        have two : bb = e ∨ bb = it := by simpa using mb
        rcases two with rfl | rfl
        · exact le1
        · exact le2
      rw [upd_ne (Nat.ne_of_lt below)]
      exact (fp bb mb).1
  done := by
    intro X hP hw hK wc i pins s σ H E I fp here got
    subst hP hw hK
    obtain ⟨⟨prev, qe⟩, qi, qn⟩ := here
    obtain ⟨xs, wq, atx⟩ := got
    obtain ⟨cells, rds, p, szz⟩ := I.tuple wq
    obtain ⟨f0, f1, f2, f3, f4, f5⟩ := fp it (by simp)
    have hl := rds.length
    have ne2 : a ≠ it := by
      intro z
      obtain ⟨ob, wo, hc2, _⟩ := p
      obtain ⟨o2, ho2, hc3, _⟩ := qi
      rw [z, ho2] at wo
      cases wo
      rw [hc3] at hc2
      injection hc2 with q
      exact absurd q (by decide)
    refine enumT_end (I.ok.hd wc) qe qi p ne2 (by simp; omega) fun h' eb => ⟨rfl, I.turned (t' := s.toks) (fun bb ob mb q => eb bb ob mb q) f0 f1 f3 f4 f5⟩
  self := fun A i s Q E here h => let ⟨⟨_, qe⟩, _⟩ := here; wpAny_pyIter_enum qe h
def iEnumT (K : PySem.W.Frag) (ta : TA) : TI := fun σ H R => ta σ H fun vs H1 => ∃ a xs, vs = [.ref a] ∧ SqT K H1 a xs ∧ R (IteT K a) H1
theorem pi_enumT {X : Cx} {e : Expr} {ta : TA} {p pos tpos : Pos} {elts : List Expr} {kk : Nat} (got : Gl X "enumerate") (hm : X.mg "enumerate" = none) (ha : PA X [e] ta) (hs : starEach [e] X.env = [(false, eval e X.env)] := by rfl) :
    PI X (.Tuple elts kk tpos) (.Call (.Name "enumerate" p) [e] [] pos) (iEnumT X.K ta) := by
  constructor
  intro pins s σ H R I h
  refine Call_ (ld_blt I got hm boot_enumerate (PyProof.Rows.callWith_type1 (thn (ha.run pos pins s σ H _ I h) fun us s1 ⟨vs, H1, J1, r1, q1⟩ => ?_) hs rfl))
  obtain ⟨a, xs, ex, wq, q⟩ := q1
  subst ex
  cases r1 with
  | cons r rr =>
    cases rr
    cases r
    obtain ⟨cells, rds, p', szz⟩ := J1.tuple wq
    refine call_enumerate_tup p' fun h' qe qi hsz keep1 => wpAny_pyIter_enum qe ?_
    have J2 : Inv X pins σ H1 { s1 with heap := h' } := J1.kept (t' := s1.toks) keep1
    refine ⟨s1.heap.objs.size + 1, [s1.heap.objs.size + 1, s1.heap.objs.size], _, _, H1, rfl, J2, turn_enumT a (s1.heap.objs.size + 1) s1.heap.objs.size, ⟨⟨.none, qe⟩, qi, Nat.succ_ne_self _⟩, fun bb mb => ?_, q⟩
    have e' : bb = s1.heap.objs.size + 1 ∨ bb = s1.heap.objs.size := by simpa using mb
    have above : bb ≥ s1.heap.objs.size := by
      rcases e' with w9 | w9 <;> rw [w9]
      · exact Nat.le_succ _
      · exact Nat.le.refl
    exact J1.fpOk above (J1.hok.fresh above)
/-- enumerate of a list or of a tuple -/
theorem pi_or {X : Cx} {tg l : Expr} {w1 w2 : TI} (h1 : PI X tg l w1) (h2 : PI X tg l w2) : PI X tg l (fun σ H R => w1 σ H R ∨ w2 σ H R) := ⟨fun pins s σ H R I h => by
  rcases h with h | h
  · exact h1.run pins s σ H R I h
  · exact h2.run pins s σ H R I h⟩
end Vf

namespace Vf
open PySem L2 PySem.Spec PyProof.Rows
/-! ### rules with the written part named (inside a comprehension nothing may lean on its block) -/
section
variable {X : Cx} (K : PySem.W.Frag) {pos : Pos}
theorem ixL (hK : X.K = K := by rfl) : IxR X (rIxL K) := hK ▸ ix_list
theorem ixT (hK : X.K = K := by rfl) : IxR X (rIxT K) := hK ▸ ix_tup
theorem slL (hK : X.K = K := by rfl) : SlR X (rSlL K) := hK ▸ sl_list
theorem slT (hK : X.K = K := by rfl) : SlR X (rSlA K) := hK ▸ sl_tupA
theorem eqDK (hu : X.A.units + 64 < cLine) (hK : X.K = K := by rfl) : OpR X (compareOp .Eq) (rEqD K) := hK ▸ op_eqD hu
theorem neDK (hu : X.A.units + 64 < cLine) (hK : X.K = K := by rfl) : OpR X (compareOp .NotEq) (rNeD K) := hK ▸ op_neD hu
theorem inSK (hK : X.K = K := by rfl) : OpR X (compareOp .In) (rIn K false) := hK ▸ op_in_seq
theorem niSK (hK : X.K = K := by rfl) : OpR X (compareOp .NotIn) (rIn K true) := hK ▸ op_notIn_seq
theorem lenSK (hK : X.K = K := by rfl) : CallR X (.builtin "len") (fun xs H Q => ∃ p ys, xs = [.ref p] ∧ (SqL K H p ys ∨ SqT K H p ys) ∧ Q (.int (ys.length : Nat)) H) := hK ▸ call_len_seq
theorem lstOK (hK : X.K = K := by rfl) : CallR X (.type "list") (fun xs H Q => ∃ p ys, xs = [.ref p] ∧ (SqL K H p ys ∨ SqT K H p ys) ∧ ∀ l, H l = none → Q (.ref l) (upd H l (.lst ys))) := hK ▸ call_list_of
theorem isiK (hK : X.K = K := by rfl) : CallR X (.builtin "isinstance") (rIsi K) := hK ▸ call_isi
theorem pe_fldK {e : Expr} {f : Str} {ta : TE} (ha : PE X e ta) (hb : attributeBase e f X.env (eval e X.env) = eval e X.env := by rfl) (hK : X.K = K := by rfl) : PE X (.Attribute e f pos) (tFld K ta f) := hK ▸ pe_fld ha hb
theorem pg_tupK {es : List Expr} {k : Nat} {t : TGs} {n : Nat} (hc : X.calm = true) (h : PGs X es t)
    (hn : (assignEach es X.env).length = n := by rfl) (hst : (assignEach es X.env).findIdx? (·.1) = none := by rfl) (hK : X.K = K := by rfl) : PG X (.Tuple es k pos) (gTup K n t) := hK ▸ pg_tup hc h hn hst
end
/-! ### readings of these -/
section
variable {σ : L2.St} {H : Hp} {K : PySem.W.Frag} {ta tb : TE} {as : TA}
theorem e_iRevR {tr : L2.St → Hp → (Int → Int → Hp → Prop) → Prop} {R : It → Hp → Prop} (q : tr σ H fun a b H1 => -(2 ^ 62) ≤ a ∧ a < 2 ^ 62 ∧ -(2 ^ 62) ≤ b ∧ b < 2 ^ 62 ∧ R (Itc (a + (((b - a).toNat : Nat) : Int) - 1) (-1) (b - a).toNat) H1) : iRevR tr σ H R := q
theorem e_rg1 {Q : Int → Int → Hp → Prop} (q : ta σ H fun x H1 => ∃ n, x = .int n ∧ Q 0 n H1) : tRg1 ta σ H Q := q
theorem e_rg2 {Q : Int → Int → Hp → Prop} (q : ta σ H fun x H1 => tb σ H1 fun y H2 => ∃ i j, x = .int i ∧ y = .int j ∧ Q i j H2) : tRg2 ta tb σ H Q := q
theorem e_iEnum {R : It → Hp → Prop} (q : as σ H fun vs H1 => ∃ a xs, vs = [.ref a] ∧ SqL K H1 a xs ∧ R (Ite K a) H1) : iEnum K as σ H R := q
theorem e_iEnumT {R : It → Hp → Prop} (q : as σ H fun vs H1 => ∃ a xs, vs = [.ref a] ∧ SqT K H1 a xs ∧ R (IteT K a) H1) : iEnumT K as σ H R := q
theorem e_iRng3 {R : It → Hp → Prop} (q : as σ H fun vs H1 => ∃ (i j c : Int) (n : Nat), vs = [.int i, .int j, .int c] ∧ RgC i j c n ∧ R (Itc i c n) H1) : iRng3 as σ H R := q
theorem e_slL {Q : VK} {p : Addr} {xs : List V} {lo hi : Option Int} (h : SqL K H p xs) (q : ∀ r, H r = none → Q (.ref r) (upd H r (.lst (cutV xs lo hi)))) : rSlL K (.ref p) lo hi H Q := ⟨p, xs, rfl, h, q⟩
theorem e_app {Q : VK} {l : Addr} {xs : List V} {y : V} (h : H l = some (.lst xs)) (hz : xs.length < sizeLine) (q : Q .non (upd H l (.lst (xs ++ [y])))) : rAppend (.ref l) [y] H Q := ⟨l, xs, y, rfl, rfl, h, hz, q⟩
theorem e_ext {Q : VK} {l b : Addr} {xs zs : List V} (h : H l = some (.lst xs)) (hb : H b = some (.lst zs)) (hz : xs.length + zs.length ≤ sizeLine) (q : Q .non (upd H l (.lst (xs ++ zs)))) : rExtend (.ref l) [.ref b] H Q := ⟨l, b, xs, zs, rfl, rfl, h, hb, hz, q⟩
end
/-! ### rows of ints as data -/
abbrev Di (l : List Int) : List PyData := l.map PyData.int
theorem dpAll_ints {K : PySem.W.Frag} {H : Hp} : ∀ xs : List Int, DpAll K H (xs.map V.int) (Di xs)
  | [] => .nil
  | x :: r => .cons (.int x) (dpAll_ints r)
theorem eqvAll_ints : ∀ xs ys : List Int, PyData.eqvAll (Di xs) (Di ys) = decide (xs = ys)
  | [], [] => by
      simp [PyData.eqvAll]
  | [], _ :: _ => by
      simp [PyData.eqvAll]
  | _ :: _, [] => by
      simp [PyData.eqvAll]
  | x :: xs, y :: ys => by
    have ih := eqvAll_ints xs ys
    show (PyData.eqv (.int x) (.int y) && PyData.eqvAll (Di xs) (Di ys)) = _
    rw [ih]
    show ((x == y) && decide (xs = ys)) = decide (x :: xs = y :: ys)
    by_cases h : x = y
    · subst h; simp
    · simp [h]
theorem canAll_ints : ∀ xs : List Int, PyData.canLayAll0 (Di xs) = true
  | [] => rfl
  | x :: r => by
    show (PyData.canLay0 (.int x) && PyData.canLayAll0 (Di r)) = true
    rw [canAll_ints r]; rfl
theorem depthAll_ints : ∀ xs : List Int, PyData.depthAll (Di xs) = 0
  | [] => rfl
  | x :: r => by
    show max 0 (PyData.depthAll (Di r)) = 0
    rw [depthAll_ints r]; rfl
theorem shaped_list {ds : List PyData} (h1 : PyData.canLayAll0 ds = true) (h2 : PyData.depthAll ds ≤ 60) : SeqAt.shaped (.list ds) = true := by
  unfold SeqAt.shaped
  rw [show PyData.canLay0 (.list ds) = PyData.canLayAll0 ds from rfl, h1, show PyData.depth (.list ds) = PyData.depthAll ds + 1 from rfl]
  simp
  omega
theorem shaped_tuple {ds : List PyData} (h1 : PyData.canLayAll0 ds = true) (h2 : PyData.depthAll ds ≤ 60) : SeqAt.shaped (.tuple ds) = true := by
  unfold SeqAt.shaped
  rw [show PyData.canLay0 (.tuple ds) = PyData.canLayAll0 ds from rfl, h1, show PyData.depth (.tuple ds) = PyData.depthAll ds + 1 from rfl]
  simp
  omega
theorem shaped_li (xs : List Int) : SeqAt.shaped (.list (Di xs)) = true := shaped_list (canAll_ints xs) (by rw [depthAll_ints]; decide)
theorem shaped_ti (xs : List Int) : SeqAt.shaped (.tuple (Di xs)) = true := shaped_tuple (canAll_ints xs) (by rw [depthAll_ints]; decide)
section
variable {K : PySem.W.Frag} {H : Hp} {Q : VK} {a b : Addr} {xs ys : List Int}
theorem e_eqLL (h1 : SqL K H a (xs.map V.int)) (h2 : SqL K H b (ys.map V.int)) (q : Q (.bl (decide (xs = ys))) H) : rEqD K (.ref a) (.ref b) H Q :=
  ⟨_, _, .lst h1 (dpAll_ints xs), .lst h2 (dpAll_ints ys), shaped_li xs, shaped_li ys, by rw [show PyData.eqv (.list (Di xs)) (.list (Di ys)) = PyData.eqvAll (Di xs) (Di ys) from rfl, eqvAll_ints]; exact q⟩
theorem e_neLL (h1 : SqL K H a (xs.map V.int)) (h2 : SqL K H b (ys.map V.int)) (q : Q (.bl (!decide (xs = ys))) H) : rNeD K (.ref a) (.ref b) H Q :=
  ⟨_, _, .lst h1 (dpAll_ints xs), .lst h2 (dpAll_ints ys), shaped_li xs, shaped_li ys, by rw [show PyData.eqv (.list (Di xs)) (.list (Di ys)) = PyData.eqvAll (Di xs) (Di ys) from rfl, eqvAll_ints]; exact q⟩
theorem e_eqTT (h1 : SqT K H a (xs.map V.int)) (h2 : SqT K H b (ys.map V.int)) (q : Q (.bl (decide (xs = ys))) H) : rEqD K (.ref a) (.ref b) H Q :=
  ⟨_, _, .tup h1 (dpAll_ints xs), .tup h2 (dpAll_ints ys), shaped_ti xs, shaped_ti ys, by rw [show PyData.eqv (.tuple (Di xs)) (.tuple (Di ys)) = PyData.eqvAll (Di xs) (Di ys) from rfl, eqvAll_ints]; exact q⟩
theorem e_neTT (h1 : SqT K H a (xs.map V.int)) (h2 : SqT K H b (ys.map V.int)) (q : Q (.bl (!decide (xs = ys))) H) : rNeD K (.ref a) (.ref b) H Q :=
  ⟨_, _, .tup h1 (dpAll_ints xs), .tup h2 (dpAll_ints ys), shaped_ti xs, shaped_ti ys, by rw [show PyData.eqv (.tuple (Di xs)) (.tuple (Di ys)) = PyData.eqvAll (Di xs) (Di ys) from rfl, eqvAll_ints]; exact q⟩
end
/-! ### the order of alike data -/
def rLtD (K : PySem.W.Frag) : R2 := fun x y H Q => ∃ d e, Dp K H x d ∧ Dp K H y e ∧ PySem.W.alike d e = true ∧ d ≠ .none ∧ d.depth ≤ 60 ∧ Q (.bl (PySem.W.dataLt d e)) H
def rGtD (K : PySem.W.Frag) : R2 := fun x y H Q => ∃ d e, Dp K H x d ∧ Dp K H y e ∧ PySem.W.alike d e = true ∧ d ≠ .none ∧ d.depth ≤ 60 ∧ Q (.bl (PySem.W.dataLt e d)) H
theorem op_ltD {X : Cx} (hu : X.A.units + 64 < cLine) : OpR X (compareOp .Lt) (rLtD X.K) := by
  intro pins s σ H x y v u C I rx ry hq
  obtain ⟨d, e, hd, he, sd, se, hp, q⟩ := hq
  obtain ⟨toks1, r1⟩ := Dp.reads I d x v hd rx
  obtain ⟨toks2, r2⟩ := Dp.reads I e y u he ry
  exact PySem.W.lt_data r1 r2 sd se (by have := Nat.min_le_left d.depth e.depth; omega) ⟨.bl _, H, I, rfl, q⟩
theorem op_gtD {X : Cx} (hu : X.A.units + 64 < cLine) : OpR X (compareOp .Gt) (rGtD X.K) := by
  intro pins s σ H x y v u C I rx ry hq
  obtain ⟨d, e, hd, he, sd, se, hp, q⟩ := hq
  obtain ⟨toks1, r1⟩ := Dp.reads I d x v hd rx
  obtain ⟨toks2, r2⟩ := Dp.reads I e y u he ry
  exact PySem.W.gt_data r1 r2 sd se (by have := Nat.min_le_left d.depth e.depth; omega) ⟨.bl _, H, I, rfl, q⟩
theorem alikeAll_ints : ∀ xs ys : List Int, PySem.W.alikeAll (Di xs) (Di ys) = true
  | [], _ => by simp [PySem.W.alikeAll]
  | _ :: _, [] => by simp [PySem.W.alikeAll]
  | x :: xs, y :: ys => by
    show (PySem.W.alike (.int x) (.int y) && PySem.W.alikeAll (Di xs) (Di ys)) = true
    rw [alikeAll_ints xs ys]; rfl
theorem lt_ints : ∀ xs ys : List Int, PyProof.Rows.lexLt PyProof.Rows.itemOrd (PySem.W.keyToksAll (Di xs)) (PySem.W.keyToksAll (Di ys)) = HT.lexLt xs ys
  | [], [] => by decide
  | [], y :: ys => by
    show PyProof.Rows.lexLt PyProof.Rows.itemOrd [.inl 0] (.inl 1 :: _) = true
    rw [PySem.W.lex_atom (by decide)]
    decide
  | x :: xs, [] => by
    show PyProof.Rows.lexLt PyProof.Rows.itemOrd (.inl 1 :: _) [.inl 0] = false
    rw [PySem.W.lex_atom (by decide)]
    decide
  | x :: xs, y :: ys => by
    have ih := lt_ints xs ys
    show _ = if x = y then HT.lexLt xs ys else decide (x < y)
    by_cases h : x = y
    · subst h
      rw [if_pos rfl, ← ih]
      exact PySem.W.dataLt_all_yes (x := .int x) (y := .int x) rfl (by simp [PyData.eqv])
    · rw [if_neg h, ← PySem.W.dataLt_int x y]
      exact PySem.W.dataLt_all_no (x := .int x) (y := .int y) rfl (by simpa [PyData.eqv] using h)
theorem e_ltLL {K : PySem.W.Frag} {H : Hp} {Q : VK} {a b : Addr} {xs ys : List Int} (h1 : SqL K H a (xs.map V.int)) (h2 : SqL K H b (ys.map V.int)) (q : Q (.bl (HT.lexLt xs ys)) H) : rLtD K (.ref a) (.ref b) H Q :=
  ⟨_, _, .lst h1 (dpAll_ints xs), .lst h2 (dpAll_ints ys), alikeAll_ints xs ys, by simp, by show PyData.depthAll (Di xs) + 1 ≤ 60; rw [depthAll_ints]; decide, by
    rw [PySem.W.dataLt_list, lt_ints]; exact q⟩
/-! ### loops over rows of ints -/
theorem at_split {ns : List Int} {i : Nat} {x : V} (hx : (ns.map V.int)[i]? = some x) : ∃ y, x = .int y ∧ ns = ns.take i ++ y :: ns.drop (i + 1) ∧ ns.take (i + 1) = ns.take i ++ [y] := by
  rw [List.getElem?_map] at hx
  cases e : ns[i]? with
  | none => rw [e] at hx; cases hx
  | some y =>
    rw [e] at hx
    have e2 := (List.getElem?_eq_some_iff.mp e).2
    refine ⟨y, (Option.some.inj hx).symm, ?_, by rw [List.take_add_one, e]; rfl⟩
    rw [← e2, List.getElem_cons_drop, List.take_append_drop]
section
variable {K : PySem.W.Frag} {g : TG} {t : TS} {D : Ends} {σ : L2.St} {H : Hp} {tt : TT} {te : TE} {vs : List Nat} {Q : VK} {Da a : Addr} {ns : List Int}
theorem for_ints (Pv : List Int → L2.St → Hp → Prop) (h0 : Pv [] σ H) (hl : ∀ pre σ H, Pv pre σ H → SqL K H a (ns.map V.int))
    (hs : ∀ (pre : List Int) (x : Int) (post : List Int) σ H, ns = pre ++ x :: post → Pv pre σ H → g (.int x) σ H fun σ2 H2 => t { D with nx := Pv (pre ++ [x]), ct := Pv (pre ++ [x]), bk := D.nx } σ2 H2)
    (hd : ∀ σ H, Pv ns σ H → D.nx σ H) : ForB (Itl K a) g t D σ H := by
  refine for_list (xs := ns.map V.int) (fun i => Pv (ns.take i)) (by simpa using h0) (fun i σ H _ p => hl _ σ H p) (fun i x σ H hx p => ?_) (fun σ H p => ?_)
  · obtain ⟨y, rfl, e1, e2⟩ := at_split hx
    rw [e2]
    exact hs _ y _ σ H e1 p
  · rw [List.length_map, List.take_length] at p
    exact hd σ H p
theorem for_intsT (Pv : List Int → L2.St → Hp → Prop) (h0 : Pv [] σ H) (hl : ∀ pre σ H, Pv pre σ H → SqT K H a (ns.map V.int))
    (hs : ∀ (pre : List Int) (x : Int) (post : List Int) σ H, ns = pre ++ x :: post → Pv pre σ H → g (.int x) σ H fun σ2 H2 => t { D with nx := Pv (pre ++ [x]), ct := Pv (pre ++ [x]), bk := D.nx } σ2 H2)
    (hd : ∀ σ H, Pv ns σ H → D.nx σ H) : ForB (Itt K a) g t D σ H := by
  refine for_tup (xs := ns.map V.int) (fun i => Pv (ns.take i)) (by simpa using h0) (fun i σ H _ p => hl _ σ H p) (fun i x σ H hx p => ?_) (fun σ H p => ?_)
  · obtain ⟨y, rfl, e1, e2⟩ := at_split hx
    rw [e2]
    exact hs _ y _ σ H e1 p
  · rw [List.length_map, List.take_length] at p
    exact hd σ H p
theorem walk_enumT {xs : List V} : Walk (IteT K a) xs.length (fun H => SqT K H a xs) (YPair (fun i => some (.int (i : Nat))) (fun i => xs[i]?)) := by
  refine ⟨fun i _ hi q => ⟨xs, xs[i], q, by simp [hi]⟩,
    fun _ q => ⟨xs, q, Nat.le_refl _⟩, fun i H v H' _ q y => ?_⟩
  obtain ⟨T, x, g1, g2, g3, g4⟩ := y
  exact ⟨T, .int (i : Nat), x, g1, g2, g3, rfl, g4 xs q⟩
theorem for_enumI (Pv : List Int → L2.St → Hp → Prop) (h0 : Pv [] σ H) (hl : ∀ pre σ H, Pv pre σ H → SqL K H a (ns.map V.int))
    (hs : ∀ (pre : List Int) (x : Int) (post : List Int) (T : Addr) σ H, ns = pre ++ x :: post → Pv pre σ H → H T = none → g (.ref T) σ (upd H T (.tup [.int (pre.length : Nat), .int x])) fun σ2 H2 => t { D with nx := Pv (pre ++ [x]), ct := Pv (pre ++ [x]), bk := D.nx } σ2 H2)
    (hd : ∀ σ H, Pv ns σ H → D.nx σ H) : ForB (Ite K a) g t D σ H := by
  refine for_it (walk_enum (xs := ns.map V.int)) (fun i => Pv (ns.take i)) (by simpa using h0) (fun i σ H _ p => hl _ σ H p) (fun i x σ H H' hi p y => ?_) (fun σ H p => ?_)
  · obtain ⟨T, u, v, rfl, hT, rfl, hu, hv⟩ := y
    obtain ⟨z, rfl, e1, e2⟩ := at_split hv
    cases (Option.some.inj hu)
    rw [e2]
    have hl : (ns.take i).length = i := by rw [List.length_map] at hi; rw [List.length_take]; omega
    have q := hs (ns.take i) z _ T σ H e1 p hT
    rw [hl] at q
    exact q
  · rw [List.length_map, List.take_length] at p
    exact hd σ H p
theorem for_enumIT (Pv : List Int → L2.St → Hp → Prop) (h0 : Pv [] σ H) (hl : ∀ pre σ H, Pv pre σ H → SqT K H a (ns.map V.int))
    (hs : ∀ (pre : List Int) (x : Int) (post : List Int) (T : Addr) σ H, ns = pre ++ x :: post → Pv pre σ H → H T = none → g (.ref T) σ (upd H T (.tup [.int (pre.length : Nat), .int x])) fun σ2 H2 => t { D with nx := Pv (pre ++ [x]), ct := Pv (pre ++ [x]), bk := D.nx } σ2 H2)
    (hd : ∀ σ H, Pv ns σ H → D.nx σ H) : ForB (IteT K a) g t D σ H := by
  refine for_it (walk_enumT (xs := ns.map V.int)) (fun i => Pv (ns.take i)) (by simpa using h0) (fun i σ H _ p => hl _ σ H p) (fun i x σ H H' hi p y => ?_) (fun σ H p => ?_)
  · obtain ⟨T, u, v, rfl, hT, rfl, hu, hv⟩ := y
    obtain ⟨z, rfl, e1, e2⟩ := at_split hv
    cases (Option.some.inj hu)
    rw [e2]
    have hl : (ns.take i).length = i := by rw [List.length_map] at hi; rw [List.length_take]; omega
    have q := hs (ns.take i) z _ T σ H e1 p hT
    rw [hl] at q
    exact q
  · rw [List.length_map, List.take_length] at p
    exact hd σ H p
/-- [e for k in range(a, b, c)], e a function of the turn -/
theorem lc_map_rngC {lo c : Int} {n : Nat} {H0 : Hp} (hD : H0 Da = none) (hn : n ≤ 1000000) (f : Nat → V)
    (hs : ∀ (i : Nat) (H2 : Hp) (C : VK) (E : Hp → Prop), i < n → Same H0 H2 → (∀ H3, Same H2 H3 → C (f i) H3) →
      g (.int (lo + (i : Nat) * c)) (wipe σ vs) H2 fun σ2 H2 => wipe σ2 vs = wipe σ vs ∧ tYes σ2 H2 fun b H3 => if b = true then te σ2 H3 C else E H3)
    (hd : ∀ (H : Hp), Same H0 H → H Da = some (.lst ((List.range n).map f)) → Q (.ref Da) H) : LcB (Itc lo c n) g tYes te vs σ Da H0 Q := by
  refine lc_it walk_rangeC (fun i H2 => Same H0 H2 ∧ H2 Da = some (.lst ((List.range i).map f))) ⟨same_new hD, upd_same⟩ (fun _ _ _ _ => trivial) (fun i x H2 H' hi p y => ?_) (fun H2 p => hd H2 p.1 p.2)
  obtain ⟨rfl, rfl⟩ := y
  obtain ⟨k4, e4⟩ := p
  refine hs i _ _ _ hi k4 fun H3 k5 => ?_
  refine ⟨_, k5 _ _ e4, Nat.lt_of_le_of_lt (by simp; omega : _ ≤ 1000000) (by decide), Same.mut (k4.trans k5) hD, ?_⟩
  rw [upd_same, List.range_succ, List.map_append]
  rfl
end
theorem i_bneself {b : Bool} {A B : Prop} (h : B) : if (b != b) = true then A else B := by
  have e : (b != b) = false := by cases b <;> rfl
  rw [e]; exact i_F h
theorem i_beself {b : Bool} {A B : Prop} (h : A) : if (b == b) = true then A else B := by
  rw [beq_self_eq_true]; exact i_T h
/-! ### a list or a tuple -/
/-- a row of values, a list's or a tuple's -/
abbrev SqE (K : PySem.W.Frag) (H : Hp) (p : Addr) (xs : List V) : Prop := SqL K H p xs ∨ SqT K H p xs
theorem Same.seqE {K : PySem.W.Frag} {H H' : Hp} {a : Addr} {xs : List V} (e : Same H H') (h : SqE K H a xs) : SqE K H' a xs := by
  rcases h with h | h
  · exact .inl (e.seq h)
  · refine .inr ?_
    rcases h with (h | ⟨c9, h⟩) | h
    · exact .inl (.inl (e _ _ h))
    · exact .inl (.inr ⟨c9, e _ _ h⟩)
    · exact .inr h
theorem e_ixE {K : PySem.W.Frag} {H : Hp} {Q : VK} {p : Addr} {xs : List V} {i : Int} {v : V} (h : SqE K H p xs) (ha : atI xs i = some v) (q : Q v H) : rIxL K (.ref p) (.int i) H Q ∨ rIxT K (.ref p) (.int i) H Q := by
  rcases h with h | h
  · exact .inl (e_ixL h ha q)
  · exact .inr (e_ixT h ha q)
/-- a list of the turn's values, over a list -/
theorem lc_map_lstI {K : PySem.W.Frag} {g : TG} {te : TE} {vs : List Nat} {σ : L2.St} {Da a : Addr} {H0 : Hp} {Q : VK} {xs : List V} (hS : SqL K H0 a xs) (hD : H0 Da = none) (hn : xs.length ≤ 1000000) (f : Nat → V)
    (hs : ∀ (i : Nat) (x : V) (H2 : Hp) (C : VK) (E : Hp → Prop), xs[i]? = some x → Same H0 H2 → (∀ H3, Same H2 H3 → C (f i) H3) →
      g x (wipe σ vs) H2 fun σ2 H2 => wipe σ2 vs = wipe σ vs ∧ tYes σ2 H2 fun b H3 => if b = true then te σ2 H3 C else E H3)
    (hd : ∀ (H : Hp), Same H0 H → H Da = some (.lst ((List.range xs.length).map f)) → Q (.ref Da) H) : LcB (Itl K a) g tYes te vs σ Da H0 Q := by
  refine lc_list (xs := xs) (fun i H2 => Same H0 H2 ∧ H2 Da = some (.lst ((List.range i).map f))) ⟨same_new hD, upd_same⟩ (fun i H2 _ p => p.1.seq hS) (fun i x H2 hx p => ?_) (fun H2 p => hd H2 p.1 p.2)
  obtain ⟨k4, e4⟩ := p
  have hi := (List.getElem?_eq_some_iff.mp hx).1
  refine hs i x H2 _ _ hx k4 fun H3 k5 => ?_
  refine ⟨_, k5 _ _ e4, Nat.lt_of_le_of_lt (by rw [List.length_map, List.length_range]; omega : _ ≤ 1000000) (by decide), Same.mut (k4.trans k5) hD, ?_⟩
  rw [upd_same, List.range_succ, List.map_append]
  rfl
end Vf

namespace Vf
open PySem L2 PySem.Spec PyProof.Rows
/-- a plain tuple of pairs: made by tuple(list), or by an update -/
def PlT (H : Hp) (a : Addr) (xs : List V) : Prop := ∃ o : Obj, o.dict = none ∧ H a = some (.frz o (.tup xs))
theorem PlT.seq {K : PySem.W.Frag} {H : Hp} {a : Addr} {xs : List V} (h : PlT H a xs) : SqT K H a xs := by
  obtain ⟨o, _, e⟩ := h
  exact .inl (.inr ⟨o, e⟩)
theorem PlT.same {H H' : Hp} {a : Addr} {xs : List V} (h : PlT H a xs) (e : Same H H') : PlT H' a xs := by
  obtain ⟨o, d, q⟩ := h
  exact ⟨o, d, e _ _ q⟩
theorem uvs_of {X : Cx} {pins : List (Addr × Obj)} {σ : L2.St} {H : Hp} {s : Shared} (I : Inv X pins σ H s) : ∀ {ps : List Addr} {kvs : List (Key × V)}, Paired (fun p kv => SqT X.K H p [kV kv.1, kv.2]) ps kvs →
    ∃ (prs : List (Key × Value)) (uvs : List (Value × Value)), KV kvs prs ∧ prs.length = ps.length ∧ uvs.length = ps.length ∧
      ∀ (j : Nat) (u y : Value), uvs[j]? = some (u, y) → ∃ (b : Addr) (k : Key), ps[j]? = some b ∧ PairAt s.heap b u y ∧ prs[j]? = some (k, y) ∧ keyIs k u = true
  | _, _, .nil => ⟨[], [], .nil, rfl, rfl, fun j u y e => by simp at e⟩
  | _, _, .cons (a := p) (b := kv) h t => by
    obtain ⟨prs, uvs, r, l1, l2, q⟩ := uvs_of I t
    obtain ⟨its, rv, ht, _⟩ := I.tuple h
    obtain ⟨u, y, rfl, ru, ry⟩ := vals2 rv
    refine ⟨(kv.1, y) :: prs, (u, y) :: uvs, .cons ⟨rfl, ry⟩ r, by simp [l1], by simp [l2], fun j u' y' e => ?_⟩
    cases j with
    | zero =>
      cases (Option.some.inj e)
      exact ⟨p, kv.1, rfl, .inl ht, rfl, kV_is (P := X.prog) (w := X.w) ru⟩
    | succ j =>
      obtain ⟨b, k, e1, e2, e3, e4⟩ := q j u' y' (by simpa using e)
      exact ⟨b, k, by simpa using e1, e2, by simpa using e3, e4⟩
theorem refs_of : ∀ {ps : List Addr} {us : List Value}, Vals (ps.map V.ref) us → us = ps.map Value.ref
  | [], _, .nil => rfl
  | p :: ps, _, .cons h t => by
    cases h
    rw [refs_of t]
    rfl
/-- dict(t), t a plain tuple of pairs -/
theorem call_dictPT {X : Cx} (hcalm : X.calm = true) : CallR X (.type "dict") (fun xs H Q => ∃ (a : Addr) (ps : List Addr) (kvs : List (Key × V)), xs = [.ref a] ∧ PlT H a (ps.map V.ref) ∧ Paired (fun p kv => SqT X.K H p [kV kv.1, kv.2]) ps kvs ∧
    ∀ p, H p = none → Q (.ref p) (upd H p (.dK (mergeK [] kvs)))) := by
  intro pins s σ H xs us Q I r q
  obtain ⟨a, ps, kvs, rfl, ⟨o, hd, ea⟩, hp, q⟩ := q
  obtain ⟨u, rfl, rx⟩ := vals1 r
  cases rx
  obtain ⟨ho, hz, its, rv, o2, ho2, hc, n, hdat⟩ := (show ObjOk X.prog X.w H s.heap a (.frz o (.tup (ps.map V.ref))) from I.hok a _ ea)
  rw [ho] at ho2
  cases (Option.some.inj ho2)
  have ei := refs_of rv
  subst ei
  rw [List.length_map] at hz
  obtain ⟨prs, uvs, rel, l1, l2, hq⟩ := uvs_of I hp
  have ok : PlainSeq "tuple" s.heap a (ps.map Value.ref).toArray ∧ PairItems s.heap (ps.map Value.ref).toArray (fun j => ps.getD j 0) uvs := by
    refine ⟨⟨o, n, ho, hc, hd, hdat⟩, by simp [l2], fun j k v hj => ?_⟩
    obtain ⟨b, key, e1, e2, _, _⟩ := hq j k v hj
    have e5 : ps.getD j 0 = b := by rw [List.getD_eq_getElem?_getD, e1]; rfl
    show _ ∧ PairAt s.heap (ps.getD j 0) k v
    rw [e5]
    exact ⟨by simp [e1], e2⟩
  refine PySem.call_dict_pairs (knd := mixKind X.prog X.w) (kvs := prs) (PairArg.tuple a (ps.map Value.ref).toArray (fun j => ps.getD j 0) uvs) (I.ok.hd hcalm) ok ⟨by rw [l1, l2], fun i key v hr => ?_⟩ (by rw [l2]; exact hz) fun h' tk hd' k => ?_
  · obtain ⟨b, k, _, _, e3, e4⟩ := hq i key v hr
    exact ⟨k, e3, e4⟩
  · have hm : (s.heap.objs.size == sysModules) = false := beq_eq_false_iff_ne.mpr (Nat.ne_of_gt I.big)
    have hlen : (mergeK [] kvs).length ≤ sizeLine := by
      have h1 := length_mergeK kvs []
      have h2 := rel.length
      rw [List.length_nil] at h1
      omega
    exact ⟨.ref s.heap.objs.size, upd H s.heap.objs.size (.dK (mergeK [] kvs)), I.laid (t' := tk) (fun b ob e => k b ob (by simp) e) (Nat.le_refl _) (show ObjOk X.prog X.w _ _ _ (.dK (mergeK [] kvs)) from ⟨hlen, hm, merged [] prs, KV.merge rel .nil, hd'⟩), rfl, q _ (I.hok.fresh (Nat.le_refl _))⟩
/-- tuple(l), l a list: a plain tuple -/
theorem call_tupleF {X : Cx} : CallR X (.type "tuple") (fun xs H Q => ∃ p ys, xs = [.ref p] ∧ SqL X.K H p ys ∧ ∀ l H', H l = none → Same H H' → PlT H' l ys → (∀ b, b ≠ l → H' b = H b) → Q (.ref l) H') := by
  intro pins s σ H xs us Q I r q
  obtain ⟨p, ys, rfl, hq, q⟩ := q
  obtain ⟨u, rfl, rx⟩ := vals1 r
  cases rx
  obtain ⟨its, rv, pl, hz⟩ := I.list hq
  have hlen := rv.length
  refine call_tuple_list pl.isList (fun h' kp => ?_) (by simp only [List.size_toArray] <;> omega)
  have J1 : Inv X pins σ H { s with heap := h' } := I.kept (t' := s.toks) kp
  have hfr := J1.hok.fresh (Nat.le_refl _)
  have J2 : Inv X pins σ (upd H h'.objs.size (.frz { cls := .type "tuple", data := .seq its.toArray } (.tup ys))) { s with heap := h'.push { cls := .type "tuple", data := .seq its.toArray } } :=
    J1.laid (t' := s.toks) (fun b ob e => Heap.get?_push_of_some _ e) (Nat.le_refl _) ⟨Heap.get?_push_size _ rfl, hz, its, rv, IsTup.new _ _⟩
  exact ⟨.ref h'.objs.size, _, J2, rfl, q _ _ hfr (same_new hfr) ⟨_, rfl, upd_same⟩ fun b hb => upd_ne hb⟩
theorem tupFK (K : PySem.W.Frag) {X : Cx} (hK : X.K = K := by rfl) : CallR X (.type "tuple") (fun xs H Q => ∃ p ys, xs = [.ref p] ∧ SqL K H p ys ∧ ∀ l H', H l = none → Same H H' → PlT H' l ys → (∀ b, b ≠ l → H' b = H b) → Q (.ref l) H') := hK ▸ call_tupleF
end Vf

namespace PySem
namespace ErrX
open PySem.W PySem.Calls PyProof.Rows PySem.HandSPX
/-! ### the text of __init__ -/
def iA (p1 p2 : Pos) : Arguments := { posonlyargs := [], args := [{ arg := "self", annotation := none, pos := p1 }, { arg := "place", annotation := none, pos := p2 }], vararg := none, kwonlyargs := [], kw_defaults := [], kwarg := none, defaults := [] }
def iB (q1 q2 q3 q4 : Pos) : List Stmt := [.Assign [.Attribute (.Name "self" q1) "place" q2] (.Name "place" q3) q4]
def iS : Scope := { kind := .function, names := [(PySem.Str.ofString "self", .local), (PySem.Str.ofString "place", .local)], isGenerator := false, isCoroutine := false, more := [] }
/-- what the written part says of Low, at C, and of its __init__, at fI -/
structure ErrTxt (K : Frag) (mg : Str → Option Value) (x : Str) (C fI : Addr) : Prop where
  gC : mg x = some (.ref C)
  cls : ∃ nm q N bs bm sn sub ab col dd k0 k1 k2 k3 k5, K.lookup C = some (excClassObj nm q C N bs bm true sn sub ab col dd k0 k1 k2 k3 k5 "ValueError.__new__") ∧ refsVE bm = true
  sa : findIn K (.ref C) "__setattr__" = some (some (.builtin "object.__setattr__"))
  ga : findIn K (.ref C) "__getattribute__" = some (some (.builtin "BaseException.__getattribute__"))
  gg : findIn K (.ref C) "__getattr__" = some none
  noN : findIn K (.ref C) "place" = some none
  iC : findIn K (.ref C) "__init__" = some (some (.ref fI))
  tC : typeIn K (.ref fI) = some (.type "function")
  kC : keepIn K (.ref C) = true
  exC : subIn K (.ref C) (.type "BaseException") = some true
  tyC : typeIn K (.ref C) = some (.type "type")
  hdC : hasDictIn K C = true
  te : exmOne K (.ref C) (.ref C) = some true
  fn : ∃ (oc : Value) (od : Option Addr) (kV doc pm : Value) (an : Option Addr) (cdv ct : Value) (osl : Array (Option Value)) (p1 p2 q1 q2 q3 q4 : Pos),
    K.lookup fI = some ⟨oc, od, .func (fnOf "__init__" "FolderkinError.__init__" (iA p1 p2) (iB q1 q2 q3 q4) iS .none kV doc pm an cdv ct), osl⟩ ∧ codeIn K cdv "FolderkinError.__init__" = true
theorem one_size (v : Value) : [v].length ≤ sizeLine := by
  rw [sizeLine_eq]
  exact (by decide : 1 ≤ 16777216)
theorem kept_but {K : Frag} {h h' : Heap} {x : Addr} (X : K.In h) (hx : K.lookup x = none) (k : ∀ b o, b ≠ x → h.get? b = some o → h'.get? b = some o) : K.In h' := fun a o e =>
  k a o (fun z => by rw [z, hx] at e; cases e) (X a o e)
theorem ldC {M : Model} {s : Shared} {name : Str} {scope : Scope} {L a : Addr} {cd : Value} {m : Str → Option Value} {x : Str} {pos : Pos} {v : Value} {Q : Value → Shared → Prop} {A : Around} {E : Value → Shared → Prop} (hn : s.heap.Ns L m) (hv : m x = some v) (h : Q v s)
    (hk : scope.kind = .function := by rfl) (hl : (envOfC name scope L a cd).kindOf x = some .local := by rfl) (hd : (x == ("__debug__" : Str)) = false := by decide) :
    wpAny M A (eval (.Name x pos) (envOfC name scope L a cd)) Q E s := wpAny_Name (wpAny_loadName_local hk hl hn hv h) hd
/-- what __init__ leaves of a fresh exception at x -/
structure InitEnd (h h' : Heap) (x C dx t1 : Addr) (v : Value) : Prop where
  keep : ∀ b o, b ≠ x → h.get? b = some o → h'.get? b = some o
  obj : h'.get? x = some { cls := .ref C, dict := some dx, data := .fields #[.ref t1, .none, .none, .none, .bool false, .none] }
  dbig : h.objs.size ≤ dx
  dne : dx ≠ x
  ns : h'.Ns1 dx (fun y => if y = "place" then some v else none)
/-- a made Low -/
structure OwnMade (h h' : Heap) (e C d : Addr) (v : Value) : Prop where
  keep : ∀ b o, h.get? b = some o → h'.get? b = some o
  new : h.objs.size ≤ e
  obj : ∃ oe vs, h'.get? e = some oe ∧ oe.cls = .ref C ∧ oe.dict = some d ∧ oe.data = .fields vs ∧ vs[1]? = some .none
  dbig : h.objs.size ≤ d
  dne : d ≠ e
  ns : h'.Ns1 d (fun y => if y = "place" then some v else none)
section
variable {prog : Program} {w : World} {A : Around} {E : Value → Shared → Prop} {R : Result → Shared → Prop} {s : Shared} {K : Frag} {mg : Str → Option Value} {C fI : Addr}
theorem err_init (T : ErrTxt K mg nmx C fI) {x t0 : Addr} {v : Value} (X : K.In s.heap) (hlim : s.heap.NoLimit) (hx : s.heap.get? x = some (excO C t0)) (hnx : K.lookup x = none) (hroom : A.depth < recursionLimit)
    (hq : ∀ h' tk dx, InitEnd s.heap h' x C dx t0 v → R (.ok (.ret .none)) { s with heap := h', toks := tk }) :
    codeAny (model prog w) A (.call (.ref fI) ⟨[.ref x, v], []⟩) R s := by
  obtain ⟨oc, od, kV, doc, pm, an, cdv, ct, osl, p1, p2, q1, q2, q3, q4, ho, hcd⟩ := T.fn
  obtain ⟨nm, q, N, bs, bm, sn, sub, ab, col, dd, k0, k1, k2, k3, k5, hC, hbm⟩ := T.cls
  have hcl : clsIn K C = some { name := nm, bases := bs, mro := .ref C :: bm, ns := N, qualname := q, hasDict := true, slotNames := sn, subclasses := sub, abstract := ab, collection := col, hasDel := false } := by unfold clsIn; rw [hC] <;> rfl
  refine Att.call_fn (binds := [("self", .ref x), ("place", v)]) X hlim ho hcd hroom (BindsTo.of_eq (by first | rfl | with_unfolding_all rfl)) (by first | rfl | decide | with_unfolding_all rfl) (fun s₁ IC => ?_) rfl rfl rfl
  obtain ⟨h₁, tk₁, rfl⟩ := IC.toInCall.same
  have k : ∀ b o, s.heap.get? b = some o → h₁.get? b = some o := IC.toInCall.keep
  have hn := IC.toInCall.ns
  have hxL : s.heap.objs.size ≠ x := Nat.ne_of_gt (Heap.lt_size hx)
  have X₁ : K.In h₁ := X.keeps k
  have hx₁ := k _ _ hx
  -- self.by = by
  show wpAny _ _ (execs _ _) _ _ _
  refine wpAny_execs_cons (plainObj_wpAny_Assign_Attribute ?_)
  refine ldC (v := v) hn (by first | rfl | with_unfolding_all rfl | kernel_rfl) (ldC (v := .ref x) hn (by first | rfl | with_unfolding_all rfl | kernel_rfl) ?_)
  refine set_plain X₁ (ox := excO C t0) (od := none) ⟨hx₁, rfl, rfl, trivial⟩ T.sa ?_
  refine exc_osa X₁ hx₁ hcl (show refsVE (.ref C :: bm) = true from hbm) rfl T.noN (fun h₃ tk₃ dx k₃ dn dne hx₃ hn₃ => ?_)
  show wpAny _ _ (execs _ _) _ _ _
  have z : s.heap.objs.size < h₁.objs.size := hn.lt
  exact wpAny_execs_nil (hq h₃ tk₃ dx ⟨fun b o hb e => k₃ b o hb (k b o e), hx₃, Nat.le_of_lt (Nat.lt_of_lt_of_le z dn), dne, hn₃⟩)
theorem err_made (T : ErrTxt K mg nmx C fI) {v : Value} (X : K.In s.heap) (hlim : s.heap.NoLimit) (hroom : A.depth + 1 < recursionLimit)
    (hq : ∀ h' tk e d, OwnMade s.heap h' e C d v → R (.ok (.ret (.ref e))) { s with heap := h', toks := tk }) :
    codeAny (model prog w) A (.call (.ref C) ⟨[v], []⟩) R s := by
  obtain ⟨nm, q, N, bs, bm, sn, sub, ab, col, dd, k0, k1, k2, k3, k5, hC, hbm⟩ := T.cls
  obtain ⟨hp, g, dr, tk, os⟩ := s
  have k : ∀ b o, hp.get? b = some o → ((hp.push (kdv_tup [v])).push (excO C hp.objs.size)).get? b = some o := fun b o e => Heap.get?_push_of_some _ (Heap.get?_push_of_some _ e)
  have hget : ((hp.push (kdv_tup [v])).push (excO C hp.objs.size)).get? (hp.objs.size + 1) = some (excO C hp.objs.size) := by heap_get
  have hnx : K.lookup (hp.objs.size + 1) = none := by
    cases e : K.lookup (hp.objs.size + 1) with
    | none => rfl
    | some o =>
      have z : hp.get? (hp.objs.size + 1) = some o := X _ _ e
      exact absurd (Nat.lt_of_succ_lt (Heap.lt_size z)) (Nat.lt_irrefl _)
  refine call_own F.excBase_ValueError (fun X => refsVE_contains X bm hbm) (X _ _ hC) (looks_findIn X T.iC) (fun self => bind_fn X self T.tC) (one_size v) ?_
  refine err_init (s := ⟨(hp.push (kdv_tup [v])).push (excO C hp.objs.size), g, dr, tk, os⟩) T (X.keeps k) (hlim.keeps k) hget hnx ?_ fun h' tk' dx ⟨k', hx, dn, dne, hns⟩ => ?_
  · show A.depth + 1 < recursionLimit
    exact hroom
  · have old : ∀ b o, hp.get? b = some o → h'.get? b = some o := fun b o e => k' b o (Nat.ne_of_lt (Nat.lt_succ_of_lt (Heap.lt_size e))) (k b o e)
    have z : hp.objs.size + 1 + 1 ≤ dx := by
      first
        | (simpa only [Heap.size_push] using dn)
        | exact dn
        | (have q := dn; rw [Heap.size_push, Heap.size_push] at q; exact q)
    exact ⟨rfl, hq h' tk' (hp.objs.size + 1) dx ⟨old, Nat.le_succ _, ⟨_, _, hx, rfl, rfl, rfl, rfl⟩, Nat.le_trans (Nat.le_trans (Nat.le_succ _) (Nat.le_succ _)) z, dne, hns⟩⟩
end
end ErrX
end PySem
namespace L2
open PySem PySem.Spec PyProof.Rows
theorem relO_plc {v : V} {v' : Value} (r : RelV v v') (f : Str) : RelO (List.lookup f [(("place" : Str), v)]) (if f = "place" then some v' else none) := by
  by_cases hw : f = "place"
  · subst hw
    rw [if_pos rfl]
    have q : List.lookup ("place" : Str) [(("place" : Str), v)] = some v := by simp [List.lookup]
    rw [q]
    exact r
  · rw [if_neg hw]
    have qw : (f == ("place" : Str)) = false := by simpa using hw
    have q2 : List.lookup f [(("place" : Str), v)] = none := by simp [List.lookup, qw]
    rw [q2]
    trivial
section
variable {X : Cx} {C fI : Addr}
/-- Low(e) -/
def tMkErr (C : Addr) (ta : TA) : St → Hp → XK → Prop := fun σ H Q => ta σ H fun vs H1 => ∃ v, vs = [v] ∧ ∀ d, H1 d = none → Q (.ref C) (some d) (upd H1 d (.xd [(("place" : Str), v)]))
theorem pmk_err {a : Expr} {ta : TA} {p pos : Pos} {k : Nat} (T : PySem.ErrX.ErrTxt X.K X.mg nmx C fI) (hr : Room k X.A) (ha : PA X [a] ta) (hg : Gl X nmx := by rfl)
    (he : starEach (a :: []) X.env = (false, eval a X.env) :: starEach [] X.env := by rfl) (hpl : (backTo pos (starEach [] X.env)).any (·.1) = false := by rfl) (hdb : (nmx == ("__debug__" : Str)) = false := by decide) :
    PMk X (.Call (.Name nmx p) [a] [] pos) (tMkErr C ta) := by
  intro pins s σ H Q I h
  refine wpAny_Call_Name_kw (ld_glob I hg T.gC ?_ hdb)
  refine PySem.W.callWith_K (h₀ := X.base) I.ok.mod.kin T.kC (thn (ha.run pos pins s σ H _ I h) fun us s1 hh => ?_) he hpl
  obtain ⟨vs, H1, I1, r1, v, ev, q1⟩ := hh
  subst ev
  refine ⟨I1.kIn, ?_⟩
  cases r1 with
  | cons rv rn =>
    rename_i v' us'
    cases rn
    show wpAny _ _ (call (.ref C) [v']) _ _ _
    have hlim := I1.nolimit
    obtain ⟨hp, g, dr, tk, os⟩ := s1
    refine wpAny_call (PySem.ErrX.err_made T I1.kIn hlim (by have := hr.dp; omega) fun h' tk' e d M => ?_)
    show MkP X pins σ Q (.ref e) ⟨h', g, dr, tk', os⟩
    obtain ⟨oe, fv, hoe, hc, hd, hdat, h1⟩ := M.obj
    have hns := M.ns
    obtain ⟨G', g1, g2⟩ := restrict h' fun b => decide (b ≠ e)
    have gk : ∀ b, b ≠ e → G'.get? b = h'.get? b := fun b hb => g1 b (decide_eq_true hb)
    have ge : G'.get? e = none := g2 e (by simp)
    have old : ∀ b o, hp.get? b = some o → G'.get? b = some o := fun b o q => (gk b (Nat.ne_of_lt (Nat.lt_of_lt_of_le (Heap.lt_size q) M.new))).trans (M.keep b o q)
    have ob : ObjOk X.prog X.w (upd H1 d (.xd [(("place" : Str), v)])) G' d (.xd [(("place" : Str), v)]) :=
      ⟨_, hns.at (fun o q => (gk d M.dne).trans q), fun f => relO_plc rv f⟩
    have J : Inv X pins σ (upd H1 d (.xd [(("place" : Str), v)])) ⟨G', g, dr, tk', os⟩ := I1.laid (t' := tk') old M.dbig ob
    refine ⟨e, oe, fv, ⟨G', g, dr, tk', os⟩, _, .ref C, some d, rfl, J, fun b o q => ?_, ge, hoe, ⟨hc, hd⟩, hdat, h1, ?_, rfl, I1.bare, raises_own T.exC T.tyC, q1 d (I1.hok.fresh M.dbig)⟩
    · by_cases hb : b = e
      · have q' : G'.get? b = some o := q
        rw [hb, ge] at q'; cases q'
      · exact (gk b hb).symm.trans q
    · rw [upd_ne (Ne.symm M.dne)]
      exact I1.hok.fresh M.new
/-- raise Low(e) -/
def tRaiseErr (C : Addr) (W : WX) (ta : TA) : TS := fun _ σ H => tMkErr C ta σ H fun cls d H' => W cls d σ H'
theorem ps_raiseErr {a : Expr} {ta : TA} {W : WX} {p pos pos2 : Pos} {k : Nat} (hc : X.calm = true) (T : PySem.ErrX.ErrTxt X.K X.mg nmx C fI) (hr : Room k X.A) (tk : Takes X W) (ha : PA X [a] ta) (hg : Gl X nmx := by rfl)
    (he : starEach (a :: []) X.env = (false, eval a X.env) :: starEach [] X.env := by rfl) (hpl : (backTo pos (starEach [] X.env)).any (·.1) = false := by rfl) (hdb : (nmx == ("__debug__" : Str)) = false := by decide) :
    PS X (.Raise (some (.Call (.Name nmx p) [a] [] pos)) none pos2) (tRaiseErr C W ta) := ps_raise hc tk (pmk_err T hr ha hg he hpl hdb)
/-- low.by, low the exception that the suite holds (at a; its class cls, its dict d) -/
def tPlcErr (C : Addr) (a : Addr) (cls : Value) (d : Option Addr) (te : TE) : TE := fun σ H Q => te σ H fun x H1 => x = .ref a ∧ cls = .ref C ∧ ∃ (dd : Addr) (v : V), d = some dd ∧ H1 dd = some (.xd [(("place" : Str), v)]) ∧ Q v H1
theorem pe_plcErr {a : Addr} {oe : Obj} {cls : Value} {d : Option Addr} {pn : List (Addr × Obj)} {e : Expr} {te : TE} {pos : Pos} (T : PySem.ErrX.ErrTxt X.K X.mg nmx C fI) (hz : Zc cls d oe) (hf : ∃ vs, oe.data = .fields vs) (he : PE (X.suite a ((a, oe) :: pn)) e te)
    (hb : attributeBase e "place" X.env (eval e X.env) = eval e X.env := by rfl) :
    PE (X.suite a ((a, oe) :: pn)) (.Attribute e "place" pos) (tPlcErr C a cls d te) := by
  refine ⟨fun pins s σ H Q I h => ?_⟩
  refine attr_of hb (thn (he.run pins s σ H _ I h) fun u s1 hh => ?_)
  obtain ⟨x, H1, I1, rx, ex, ec, dd, v, ed, ea, q⟩ := hh
  subst ex
  obtain rfl : u = Value.ref a := rx
  subst ec
  subst ed
  obtain ⟨ha, _⟩ := I1.pin (a, oe) (List.mem_append_left _ List.mem_cons_self)
  obtain ⟨vs, hd⟩ := hf
  have hx : ObjOk X.prog X.w H1 s1.heap dd (.xd [(("place" : Str), v)]) := I1.hok dd _ ea
  obtain ⟨mA, hns, hr⟩ := hx
  obtain ⟨od, ho, hl⟩ := lookIn_ns hns
  have l : List.lookup ("place" : Str) [(("place" : Str), v)] = some v := by simp [List.lookup]
  obtain ⟨u, hu, ru⟩ := RelO.some_of (v := v) (o := mA "place") (by rw [← l]; exact hr "place")
  have J : PySem.W.InstAt s1.heap a oe C (some od) := ⟨ha, hz.1, by unfold PySem.W.notCls; rw [hd] <;> rfl, by rw [hz.2]; exact ho⟩
  exact HandSPX.exc_get I1.kIn J T.ga T.gg T.exC (PySem.W.findObj_own T.hdC T.noN rfl (by rw [hl, hu])) (handed_of ru) ⟨v, H1, I1.tok _, ru, q⟩
end
end L2

namespace Vf
open PySem L2 PySem.Spec PyProof.Rows
/-- isinstance(e, c), e the error that the suite holds (at a; its class cls, its own dict d) -/
def rIsP (K : PySem.W.Frag) (D a : Addr) (cls : Value) (d : Option Addr) : List V → Hp → VK → Prop := fun xs H Q => cls = .ref D ∧ ∃ (dd : Addr) (pl c : V) (cv : Value) (b : Bool),
  d = some dd ∧ H dd = some (.xd [(("place" : Str), pl)]) ∧ xs = [.ref a, c] ∧ (∀ u, RelV c u → u = cv) ∧ PySem.W.kitOne K (.ref D) cv = some b ∧ Q (.bl b) H
theorem call_isP {X : Cx} {a D : Addr} {oe : Obj} {cls : Value} {d : Option Addr} {pn : List (Addr × Obj)} (C : ExcC X.K D) (hz : Zc cls d oe) (hf : ∃ vs, oe.data = .fields vs) : CallR (X.suite a ((a, oe) :: pn)) (.builtin "isinstance") (rIsP X.K D a cls d) := by
  intro pins s σ H xs us Q I r h
  obtain ⟨rfl, dd, pl, c, cv, b, rfl, ea, rfl, hcv, e, q⟩ := h
  obtain ⟨u1, u2, rfl, r1, r2⟩ := vals2 r
  cases (show u1 = Value.ref a from r1)
  have e2 := hcv _ r2
  subst e2
  obtain ⟨ha, _⟩ := I.pin (a, oe) (List.mem_append_left _ List.mem_cons_self)
  obtain ⟨vs, hd⟩ := hf
  obtain ⟨mA, hns, _⟩ := (show ObjOk X.prog X.w H s.heap dd (.xd [(("place" : Str), pl)]) from I.hok dd _ ea)
  obtain ⟨od, ho, _⟩ := lookIn_ns hns
  have J : PySem.W.InstAt s.heap a oe D (some od) := ⟨ha, hz.1, by unfold PySem.W.notCls; rw [hd] <;> rfl, by rw [hz.2]; exact ho⟩
  have hcl : (PySem.W.clsIn X.K D).isSome = true := by
    have h1 := C.hd
    unfold PySem.W.hasDictIn at h1
    cases h2 : PySem.W.clsIn X.K D with
    | none => rw [h2] at h1; cases h1
    | some cd => rfl
  exact PySem.W.kia_one (PySem.W.kitx_exc hcl C.hg C.hk C.hs C.ha C.hn C.ht C.hm) I.kIn J e (fun z => nomatch z) fun tk => ⟨.bl b, H, I.kept (t' := tk) fun _ _ z => z, rfl, q⟩
end Vf

namespace Vf
open PySem L2 PySem.Spec PyProof.Rows He
/-! ### the head's facts, and further ones that are yes or no -/
abbrev AlX : Type := AlD × Bool
def obsX (fa : List Fa) (fn : List DefD) (ex : List (PySem.W.Frag → Bool)) (K : PySem.W.Frag) : AlX := (obsD fa fn K, ex.all fun p => p K)
def obsXG (n : Nat) (fa : List Fa) (fn : List DefD) (ex : List (PySem.W.Frag → Bool)) (g : Addr → Option Obj) : AlX := obsX fa fn ex (frG g (asD g n))
def SaysX (fa : List Fa) (fn : List DefD) (ex : List (PySem.W.Frag → Bool)) (K : PySem.W.Frag) : Prop := SaysD fa fn K ∧ (ex.all fun p => p K) = true
def hookX (n : Nat) (fa : List Fa) (fn : List DefD) (ex : List (PySem.W.Frag → Bool)) : PySem.W.Hook where
  α := AlX
  obs := fun s => obsXG n fa fn ex s.heap.get?
  val := fun _ => (valD fn, true)
  says := fun _ h => ∃ K : PySem.W.Frag, K.In h ∧ SaysX fa fn ex K
  of := fun _ _ e => ⟨_, frG_in, congrArg (fun z : AlX => z.1) e, congrArg (fun z : AlX => z.2) e⟩
  keeps := fun _ _ _ ⟨K, hK, c⟩ k => ⟨K, PySem.W.Frag.In.keeps hK k, c⟩
theorem obsXG_eq {n : Nat} {fa : List Fa} {fn : List DefD} {ex : List (PySem.W.Frag → Bool)} {g : Addr → Option Obj} {s : Shared} (h : ∀ a, g a = s.heap.get? a) : obsXG n fa fn ex g = (hookX n fa fn ex).obs s := by
  have e : g = s.heap.get? := funext h
  rw [e] <;> rfl
theorem SaysX.more {fa : List Fa} {fn : List DefD} {ex : List (PySem.W.Frag → Bool)} {K : PySem.W.Frag} (c : SaysX fa fn ex K) (i : Nat) {p : PySem.W.Frag → Bool} (h : ex[i]? = some p := by rfl) : p K = true :=
  List.all_eq_true.mp c.2 p (List.mem_of_getElem? h)
/-! ### an own error, over ValueError through own classes, with __init__ from one of them -/
def errB (K : PySem.W.Frag) (C : Addr) : Bool := match K.lookup C with
  | some ⟨.type "type", _, .cls cd, sl⟩ => (match cd.mro, sl.toList with
    | .ref D :: bm, [_, _, _, _, some (.builtin n), _] => D == C && (n == "ValueError.__new__" && (!cd.hasDel && (cd.hasDict && PySem.HandSPX.refsVE bm)))
    | _, _ => false)
  | _ => false
theorem errB_ok {K : PySem.W.Frag} {C : Addr} (q : errB K C = true) : ∃ nm qn N bs bm sn sub ab col dd k0 k1 k2 k3 k5, K.lookup C = some (excClassObj nm qn C N bs bm true sn sub ab col dd k0 k1 k2 k3 k5 "ValueError.__new__") ∧ PySem.HandSPX.refsVE bm = true := by
  unfold errB at q
  split at q
  · rename_i dd cd sl ho
    split at q
    · rename_i D bm k0 k1 k2 k3 n k5 hm hs
      simp only [Bool.and_eq_true, beq_iff_eq, Bool.not_eq_true'] at q
      obtain ⟨rfl, rfl, hdel, hdi, hv⟩ := q
      obtain ⟨nm, bs, mro, ns, qn, hd, sn, sub, ab, col, del⟩ := cd
      dsimp only at hm hdel hdi
      subst hm hdel hdi
      obtain ⟨l⟩ := sl
      simp only at hs
      subst hs
      exact ⟨nm, qn, ns, bs, bm, sn, sub, ab, col, dd, k0, k1, k2, k3, k5, ho, hv⟩
    · cases q
  · cases q
def errAll (x bx : Str) (K : PySem.W.Frag) : Bool :=
  errB K (ga K x) && (eqO (PySem.W.findIn K (.ref (ga K x)) "__setattr__") (some (some (.builtin "object.__setattr__"))) && (eqO (PySem.W.findIn K (.ref (ga K x)) "__getattribute__") (some (some (.builtin "BaseException.__getattribute__"))) &&
  (eqO (PySem.W.findIn K (.ref (ga K x)) "__getattr__") (some none) && (eqO (PySem.W.findIn K (.ref (ga K x)) "place") (some none) && (eqO (PySem.W.findIn K (.ref (ga K x)) "__init__") (some (some (.ref (ma K (ga K bx) "__init__")))) &&
  (decide (PySem.W.typeIn K (.ref (ma K (ga K bx) "__init__")) = some (.type "function")) && (PySem.W.keepIn K (.ref (ga K x)) && (decide (PySem.W.subIn K (.ref (ga K x)) (.type "BaseException") = some true) && (decide (PySem.W.typeIn K (.ref (ga K x)) = some (.type "type")) &&
  (PySem.W.hasDictIn K (ga K x) && (decide (PySem.W.exmOne K (.ref (ga K x)) (.ref (ga K x)) = some true) && (decide (PySem.W.exmOne K (.ref (ga K x)) (.ref (ga K bx)) = some true) && (eqO (PySem.W.findIn K (.ref (ga K x)) "__class__") (some (some (.builtin "object.__class__"))) &&
  (eqO (PySem.W.specialIn K (.builtin "object.__class__") "__get__") (some (some (.builtin "getset_descriptor.__get__"))) && (decide (PySem.W.takesIn K (.builtin "object.__class__") = some true) && (decide (PySem.W.mroIn K (ga K x) (.type "object") = some true) &&
  (decide (PySem.W.kitOne K (.ref (ga K x)) (.ref (ga K x)) = some true) && (decide (PySem.W.kitOne K (.ref (ga K x)) (.ref (ga K bx)) = some true) && decide (PySem.W.kitOne K (.ref (ga K x)) (.type "ValueError") = some true)))))))))))))))))))
structure ErrAll (K : PySem.W.Frag) (mg : Str → Option Value) (x bx : Str) : Prop where
  er : PySem.ErrX.ErrTxt K mg x (ga K x) (ma K (ga K bx) "__init__")
  gB : mg bx = some (.ref (ga K bx))
  ec : ExcC K (ga K x)
  xb : PySem.W.exmOne K (.ref (ga K x)) (.ref (ga K bx)) = some true
  ii : PySem.W.kitOne K (.ref (ga K x)) (.ref (ga K x)) = some true
  ib : PySem.W.kitOne K (.ref (ga K x)) (.ref (ga K bx)) = some true
  iv : PySem.W.kitOne K (.ref (ga K x)) (.type "ValueError") = some true
theorem errAll_ok {K : PySem.W.Frag} {h : Heap} {mg : Str → Option Value} {x bx : Str} {fd : FuncData} {p1 p2 q1 q2 q3 q4 : Pos} (X : K.In h) (G : h.Ns mainGlobals mg) (c1 : (Fa.glo x).ok K = true) (c2 : (Fa.glo bx).ok K = true) (ce : errAll x bx K = true)
    (F : FunD K "__init__" "FolderkinError.__init__" (PySem.ErrX.iA p1 p2) (PySem.ErrX.iB q1 q2 q3 q4) PySem.ErrX.iS [] [] (ma K (ga K bx) "__init__") fd) : ErrAll K mg x bx := by
  obtain ⟨e1, ce⟩ := ba ce
  obtain ⟨e2, ce⟩ := ba ce
  obtain ⟨e3, ce⟩ := ba ce
  obtain ⟨e4, ce⟩ := ba ce
  obtain ⟨e5, ce⟩ := ba ce
  obtain ⟨e6, ce⟩ := ba ce
  obtain ⟨e7, ce⟩ := ba ce
  obtain ⟨e8, ce⟩ := ba ce
  obtain ⟨e9, ce⟩ := ba ce
  obtain ⟨e10, ce⟩ := ba ce
  obtain ⟨e11, ce⟩ := ba ce
  obtain ⟨e12, ce⟩ := ba ce
  obtain ⟨e13, ce⟩ := ba ce
  obtain ⟨e14, ce⟩ := ba ce
  obtain ⟨e15, ce⟩ := ba ce
  obtain ⟨e16, ce⟩ := ba ce
  obtain ⟨e17, ce⟩ := ba ce
  obtain ⟨e18, ce⟩ := ba ce
  obtain ⟨e19, e20⟩ := ba ce
  obtain ⟨oc, od, dV, kV, doc, pm, an, cdv, ct, osl, rfl, lk, hcd, dfl, _⟩ := F.ex
  have ed : dV = .none := by
    rcases dfl with ⟨_, h⟩ | ⟨h, _⟩
    · exact h
    · exact absurd rfl h
  subst ed
  exact { er := { gC := glo_ok X G c1, cls := errB_ok e1, sa := eqO_ok e2, ga := eqO_ok e3, gg := eqO_ok e4, noN := eqO_ok e5, iC := eqO_ok e6, tC := of_decide_eq_true e7, kC := e8, exC := of_decide_eq_true e9, tyC := of_decide_eq_true e10, hdC := e11, te := of_decide_eq_true e12,
                  fn := ⟨oc, od, kV, doc, pm, an, cdv, ct, osl, p1, p2, q1, q2, q3, q4, lk, hcd⟩ },
          gB := glo_ok X G c2, ec := ⟨eqO_ok e3, eqO_ok e4, of_decide_eq_true e9, e11, eqO_ok e14, eqO_ok e15, of_decide_eq_true e16, of_decide_eq_true e17⟩,
          xb := of_decide_eq_true e13, ii := of_decide_eq_true e18, ib := of_decide_eq_true e19, iv := of_decide_eq_true e20 }
/-! ### calls of a def that may raise -/
structure CalX (P : Program) (w : World) (K : PySem.W.Frag) (mg : Str → Option Value) (base : Heap) (k : Nat) (x : Str) (sp : Sp) : Prop where
  ex : ∃ (f : Addr) (fd : FuncData) (ps : List Str), FnOk P w K mg base (L2.CX P w) k f fd ps sp ∧ mg x = some (.ref f) ∧ PySem.W.keepIn K (.ref f) = true ∧ Binds K fd ps []
theorem pe_cX {X : Cx} {k j : Nat} {x : Str} {sp : Sp} {p pos : Pos} {e : Expr} {es : List Expr} {t : TA} {W : WX} (c : CalX X.prog X.w X.K X.mg X.base k x sp) (hr : Room j X.A) (hk : k ≤ j) (tk : Takes X W) (hg : Gl X x) (ha : PA X (e :: es) t)
    (hdb : (x == ("__debug__" : Str)) = false := by decide) (he : starEach (e :: es) X.env = (false, eval e X.env) :: starEach es X.env := by rfl)
    (hpl : (backTo pos (starEach es X.env)).any (·.1) = false := by rfl) : PE X (.Call (.Name x p) (e :: es) [] pos) (tCallS sp (WE W) t) := by
  obtain ⟨f, fd, ps, F, hm, kp, b⟩ := c.ex
  exact pe_callS F (hr.mono hk) hg hm kp b (fun σ => passAt tk σ) ha hdb he hpl
/-- promises of a def that may raise, by arity -/
abbrev sp1X (R : V → Hp → VK → XK → Prop) : Sp := fun vs H Q E => ∃ a, vs = [a] ∧ R a H Q E
end Vf

namespace Vf
open PySem L2 PySem.Spec PyProof.Rows
/-- x == y, x an instance of a class with its own __eq__ that answers True or False; y one too, or a tuple -/
def rEqO (K : PySem.W.Frag) (C : Addr) (sp : Sp) (E : XK) : R2 := fun x y H Q => ∃ (a b dx : Addr) (fs : List (Str × V)), x = .ref a ∧ y = .ref b ∧ H a = some (.ins C dx fs) ∧
  ((∃ (dy : Addr) (gs : List (Str × V)), H b = some (.ins C dy gs)) ∨ (PySem.W.notFirst K C (.type "tuple") = true ∧ ∃ ys, SqT K H b ys)) ∧ sp [x, y] H (fun z H' => ∃ t, z = .bl t ∧ Q z H') E
theorem op_eqOwn {X : Cx} {CX : CXT} {C f : Addr} {fd : FuncData} {ps : List Str} {sp : Sp} {E : XK} {n : Nat} (F : FnOk X.prog X.w X.K X.mg X.base CX n f fd ps sp)
    (hs : PySem.W.findIn X.K (.ref C) "__eq__" = some (some (.ref f))) (hf : PySem.W.isFn X.K (.ref f) = true) (hb : Binds X.K fd ps []) (hx : Passes CX X E) (hr : Room n X.A) : OpR X (compareOp .Eq) (rEqO X.K C sp E) := by
  intro pins s σ H x y v u Q I rx ry q
  obtain ⟨a, b, dx, fs, rfl, rfl, ha, hy, hsp⟩ := q
  cases rx
  cases ry
  obtain ⟨mA, J, _⟩ := ins_get I.hok ha
  obtain ⟨od, J, _⟩ := J.look
  obtain ⟨m, hF⟩ := I.fr
  have go : ∀ tb : Value, PySem.W.Looks (model X.prog X.w) s.heap (typeOf (.ref b)) tb → PySem.W.notFirst X.K C tb = true → wpAny (model X.prog X.w) X.A (richCompare .Eq (.ref a) (.ref b)) (EP X pins σ Q) X.xe s := fun tb ht hn => by
    refine PySem.W.cmp_K (op := .Eq) (tb := tb) hr.units0 hF I.ok.mod.kin J ht hn hs hf ?_
    have hl := F.len _ _ _ _ hsp
    have r2 : Vals [V.ref a, V.ref b] [Value.ref a, Value.ref b] := .cons rfl (.cons rfl .nil)
    refine wpAny_call (codeAny_mono (F.run X.A X.stack s H ⟨[.ref a, .ref b], []⟩ [.ref a, .ref b] [.ref a, .ref b] _ E hr I.env0 (by
      have := hb s [.ref a, .ref b] I.kIn (by simpa using hl)
      simpa using this) r2 hsp) fun r s' hq => ?_)
    cases r with
    | error e => exact hx pins σ H s e s' I hq
    | ok fl =>
      cases fl with
      | ret w =>
        obtain ⟨z, H', I', rz, t, ez, hQ⟩ := I.after hq
        subst ez
        cases rz
        exact ⟨.bl t, H', I', rfl, hQ⟩
      | next => exact False.elim hq
      | brk => exact False.elim hq
      | cont => exact False.elim hq
  rcases hy with ⟨dy, gs, hy⟩ | ⟨hn, ys, hy⟩
  · obtain ⟨mB, J', _⟩ := ins_get I.hok hy
    obtain ⟨od', J', _⟩ := J'.look
    exact go (.ref C) J'.type (by simp [PySem.W.notFirst])
  · obtain ⟨its, rv, ⟨o, ho, hc, _⟩, _⟩ := I.tuple hy
    exact go (.type "tuple") (fun A Q E s' k z => wpAny_typeOf (T := "tuple") ⟨o, k _ _ ho, hc⟩ z) hn
end Vf

namespace Vf
open PySem L2 PySem.Spec PyProof.Rows He
/-! ### an own class: all yes-or-no facts of it -/
def clsB (x : Str) (K : PySem.W.Frag) : Bool :=
  eqO (PySem.W.findIn K (.ref (ga K x)) "__class__") (some (some (.builtin "object.__class__"))) &&
  (eqO (PySem.W.specialIn K (.builtin "object.__class__") "__get__") (some (some (.builtin "getset_descriptor.__get__"))) && (decide (PySem.W.takesIn K (.builtin "object.__class__") = some true) &&
  (decide (PySem.W.mroIn K (ga K x) (.type "object") = some true) && (decide (PySem.W.kitOne K (.ref (ga K x)) (.ref (ga K x)) = some true) && (decide (PySem.W.kitOne K (.type "tuple") (.ref (ga K x)) = some false) && PySem.W.notFirst K (ga K x) (.type "tuple"))))))
structure ClsT (K : PySem.W.Frag) (x : Str) : Prop where
  ha : PySem.W.findIn K (.ref (ga K x)) "__class__" = some (some (.builtin "object.__class__"))
  hn : PySem.W.specialIn K (.builtin "object.__class__") "__get__" = some (some (.builtin "getset_descriptor.__get__"))
  htk : PySem.W.takesIn K (.builtin "object.__class__") = some true
  hm : PySem.W.mroIn K (ga K x) (.type "object") = some true
  own : PySem.W.kitOne K (.ref (ga K x)) (.ref (ga K x)) = some true
  tup : PySem.W.kitOne K (.type "tuple") (.ref (ga K x)) = some false
  nf : PySem.W.notFirst K (ga K x) (.type "tuple") = true
theorem clsB_ok {x : Str} {K : PySem.W.Frag} (c : clsB x K = true) : ClsT K x := by
  unfold clsB at c
  obtain ⟨c1, c⟩ := ba c
  obtain ⟨c2, c⟩ := ba c
  obtain ⟨c3, c⟩ := ba c
  obtain ⟨c4, c⟩ := ba c
  obtain ⟨c5, c⟩ := ba c
  obtain ⟨c6, c7⟩ := ba c
  exact ⟨eqO_ok c1, eqO_ok c2, of_decide_eq_true c3, of_decide_eq_true c4, of_decide_eq_true c5, of_decide_eq_true c6, c7⟩
/-- == by its own __eq__ -/
def eqB (x : Str) (K : PySem.W.Frag) : Bool := eqO (PySem.W.findIn K (.ref (ga K x)) "__eq__") (some (some (.ref (ma K (ga K x) "__eq__")))) && PySem.W.isFn K (.ref (ma K (ga K x) "__eq__"))
structure EqC (P : Program) (w : World) (K : PySem.W.Frag) (mg : Str → Option Value) (base : Heap) (k : Nat) (x : Str) (sp : Sp) : Prop where
  ex : ∃ (f : Addr) (fd : FuncData) (ps : List Str), FnOk P w K mg base CX0 k f fd ps sp ∧ PySem.W.findIn K (.ref (ga K x)) "__eq__" = some (some (.ref f)) ∧ PySem.W.isFn K (.ref f) = true ∧ Binds K fd ps []
theorem op_eqC {X : Cx} {k j : Nat} {x : Str} {sp : Sp} (c : EqC X.prog X.w X.K X.mg X.base k x sp) (hr : Room j X.A) (hk : k ≤ j) : OpR X (compareOp .Eq) (rEqO X.K (ga X.K x) sp E0) := by
  obtain ⟨f, fd, ps, F, hs, hf, hb⟩ := c.ex
  exact op_eqOwn F hs hf hb pass0 (hr.mono hk)
/-- C(e, .., k = v) -/
structure MakN (P : Program) (w : World) (K : PySem.W.Frag) (mg : Str → Option Value) (base : Heap) (k : Nat) (x : Str) (C : Addr) (sp : Sp) (n : Nat) (ks : List Str) (gV : List V → List V → List V) : Prop where
  ex : ∃ (f : Addr) (fd : FuncData) (ps : List Str) (g : List Value → List Value → List Value), Mk K C f ∧ FnOk P w K mg base CX0 k f fd ps sp ∧ mg x = some (.ref C) ∧ KBn K fd ps (n + 1) ks g gV
theorem pe_mkN {X : Cx} {k j n : Nat} {C : Addr} {x : Str} {sp : Sp} {p pos : Pos} {e : Expr} {es : List Expr} {kws : List Keyword} {ks : List Str} {t tk : TA} {gV : List V → List V → List V} (c : MakN X.prog X.w X.K X.mg X.base k x C sp n ks gV) (hr : Room j X.A) (hk : k + 1 ≤ j) (hg : Gl X x)
    (ha : PA X (e :: es) t) (hkw : PK X kws tk) (hall : (backToKw pos (keywordEach kws X.env)).all (·.1.isSome) = true := by rfl) (hks : (backToKw pos (keywordEach kws X.env)).filterMap (·.1) = ks := by rfl)
    (hdb : (x == ("__debug__" : Str)) = false := by decide) (he : starEach (e :: es) X.env = (false, eval e X.env) :: starEach es X.env := by rfl)
    (hpl : ((backTo pos (starEach (e :: es) X.env)).any (·.1) || (backToKw pos (keywordEach kws X.env)).any (·.1.isNone)) = false := by rfl) :
    PE X (.Call (.Name x p) (e :: es) kws pos) (tMakeN C n ks.length sp gV E0 t tk) := by
  obtain ⟨f, fd, ps, g, M, F, hm, b⟩ := c.ex
  exact pe_makeN M F (hr.mono hk) hg hm b pass0 ha hkw hall hks hdb he hpl
theorem e_tMake {C : Addr} {sp : Sp} {dvs : List V} {E : XK} {t : TA} {σ : L2.St} {H : Hp} {Q : VK} (q : t σ H fun vs H1 => ∀ x dx, H1 x = none → H1 dx = none → dx ≠ x → sp (.ref x :: (vs ++ dvs)) (upd (upd H1 dx (.own x)) x (.ins C dx [])) (fun v H2 => v = .non ∧ Q (.ref x) H2) E) : tMake C sp dvs E t σ H Q := q
theorem e_tMakeN {C : Addr} {n m : Nat} {sp : Sp} {gV : List V → List V → List V} {E : XK} {t tk : TA} {σ : L2.St} {H : Hp} {Q : VK} (q : t σ H fun vs H1 => tk σ H1 fun zs H2 => vs.length = n ∧ zs.length = m ∧
  ∀ x dx, H2 x = none → H2 dx = none → dx ≠ x → sp (gV (.ref x :: vs) zs) (upd (upd H2 dx (.own x)) x (.ins C dx [])) (fun v H3 => v = .non ∧ Q (.ref x) H3) E) : tMakeN C n m sp gV E t tk σ H Q := q
/-! ### == and != of data with any texts -/
def rEqP (K : PySem.W.Frag) : R2 := fun x y H Q => ∃ d e, Dp K H x d ∧ Dp K H y e ∧ d.plain = true ∧ e.plain = true ∧ d.depth ≤ 60 ∧ Q (.bl (PyData.eqv d e)) H
def rNeP (K : PySem.W.Frag) : R2 := fun x y H Q => ∃ d e, Dp K H x d ∧ Dp K H y e ∧ d.plain = true ∧ e.plain = true ∧ d.depth ≤ 60 ∧ Q (.bl (!PyData.eqv d e)) H
theorem op_eqP {X : Cx} (hu : X.A.units + 64 < cLine) : OpR X (compareOp .Eq) (rEqP X.K) := by
  intro pins s σ H x y v u Q I rx ry h
  obtain ⟨d, e, hd, he, sd, se, hp, q⟩ := h
  obtain ⟨as, r1⟩ := Dp.reads I d x v hd rx
  obtain ⟨bs, r2⟩ := Dp.reads I e y u he ry
  exact PySem.SeqAt.eq_plain r1 r2 sd se (by omega) ⟨.bl _, H, I, rfl, q⟩
theorem op_neP {X : Cx} (hu : X.A.units + 64 < cLine) : OpR X (compareOp .NotEq) (rNeP X.K) := by
  intro pins s σ H x y v u Q I rx ry h
  obtain ⟨d, e, hd, he, sd, se, hp, q⟩ := h
  obtain ⟨as, r1⟩ := Dp.reads I d x v hd rx
  obtain ⟨bs, r2⟩ := Dp.reads I e y u he ry
  exact PySem.SeqAt.ne_plain r1 r2 sd se (by omega) ⟨.bl _, H, I, rfl, q⟩
end Vf

namespace Vf
open PySem L2 PySem.Spec PyProof.Rows He
/-! ### t[::-1] of a pair -/
section
variable {prog : Program} {w : World} {A : Around} {E : Value → Shared → Prop} {s : Shared}
theorem rev2_applied {sl : Addr} {u : Tok} {Q : Int × Int × Nat → Shared → Prop} (hs : s.heap.IsSliceOf sl .none .none (.int (-1) u)) (h : Q (1, -1, 2) s) :
    wpAny (model prog w) A (Builtin.Slice.sliceApplied (.ref sl) (pure ((2 : Nat) : Int))) Q E s := by
  obtain ⟨os, hos, hcs, hds⟩ := id hs
  unfold Builtin.Slice.sliceApplied Builtin.Slice.sliceFields
  refine wpAny_bind (wpAny_bind (wpAny_field hos hds (x := .none) rfl (wpAny_bind (wpAny_field hos hds (x := .none) rfl (wpAny_bind (wpAny_field hos hds (x := .int (-1) u) rfl (wpAny_pure ?_)))))))
  refine wpAny_bind (slicePart_int ?_)
  show wpAny _ _ (if ((-1 : Int) == 0) = true then _ else _) _ _ s
  rw [if_neg (by decide)]
  refine wpAny_bind (slicePart_none (wpAny_bind (slicePart_none (wpAny_bind (wpAny_pure ?_)))))
  show wpAny _ _ (match Builtin.Slice.sliceAdjust none none (-1) ((2 : Nat) : Int) with | (lo, hi) => pure (lo, (-1 : Int), Builtin.Slice.slicePlaces lo hi (-1))) _ _ s
  exact wpAny_pure h
theorem getItem_pair_rev {t sl : Addr} {v0 v1 : Value} {u : Tok} {Q : Value → Shared → Prop} (ht : IsTup s.heap t #[v0, v1]) (hs : s.heap.IsSliceOf sl .none .none (.int (-1) u))
    (h : Q (.ref s.heap.objs.size) { s with heap := s.heap.push { cls := .type "tuple", data := .seq #[v1, v0] } }) : wpAny (model prog w) A (getItem (.ref t) (.ref sl)) Q E s := by
  obtain ⟨os, hos, hcs, hds⟩ := id hs
  have hTs : s.TypeIs (.ref sl) "slice" := ⟨os, hos, hcs⟩
  unfold getItem
  try with_reducible refine wpAny_holding ?_
  first | refine wpAny_bind (wpAny_pure ?_) | skip
  refine wpAny_bind (wpAny_sequenceKey ht.typeIs (by decide) ?_)
  refine wpAny_bind (wpAny_callSpecial?_slot (name := Str.ofString "__getitem__") ht.typeIs PyProof.Rows.slot_tuple_getitem
    (wpAny_call_entry PyProof.Rows.slot_tuple_getitem ht.typeIs entry_tuple_getitem ?_ (args_tuple_getitem _ _)))
  show wpAny _ _ (Builtin.Tuple.tupleItemsOf (.ref t) >>= _) _ _ s
  refine wpAny_bind (tupleItemsOf_ ht ?_)
  refine wpAny_bind (wpAny_typeOf hTs ?_)
  rw [if_pos (by decide)]
  refine wpAny_bind (rev2_applied hs ?_)
  show wpAny _ _ (if (((1 : Int)) == 0 && (-1 : Int) == 1 && ((2 : Nat) == 2)) = true then _ else _) _ _ s
  rw [if_neg (by decide)]
  have hz : sizeOk (.seq #[v1, v0]) := by show (2 : Nat) ≤ sizeLine; decide
  first
    | exact wpAny_bind (m := Builtin.Tuple.tupleExact _) (wpAny_newObj_type (wpAny_pure ⟨_, rfl, wpAny_pure h⟩) hz)
    | exact wpAny_bind (m := Builtin.Tuple.tupleExact _) (wpAny_newObj_type (wpAny_bind (wpAny_pure (wpAny_pure ⟨_, rfl, wpAny_pure h⟩))) hz)
    | exact wpAny_bind (wpAny_bind (m := Builtin.Tuple.tupleExact _) (wpAny_newObj_type (wpAny_pure (wpAny_pure ⟨_, rfl, wpAny_pure h⟩)) hz))
    | exact wpAny_bind (wpAny_bind (m := Builtin.Tuple.tupleExact _) (wpAny_newObj_type (wpAny_pure ⟨_, rfl, wpAny_pure h⟩) hz))
end
section
variable {X : Cx}
def tRevT (K : PySem.W.Frag) (te : TE) : TE := fun σ H Q => te σ H fun x H1 => ∃ a u v, x = .ref a ∧ SqT K H1 a [u, v] ∧ ∀ p, H1 p = none → Q (.ref p) (upd H1 p (.tup [v, u]))
theorem pe_revT {e : Expr} {te : TE} {k : Nat} {p1 p2 p3 pos : Pos} (he : PE X e te) : PE X (.Subscript e (.Slice none none (some (.UnaryOp .USub (.Constant (.int 1) k p1) p2)) p3) pos) (tRevT X.K te) := by
  refine ⟨fun pins s σ H Q I h => ?_⟩
  refine Subscript_ (thn (he.run pins s σ H _ I h) fun v s1 ⟨x, H1, I1, r1, q1⟩ => ?_)
  obtain ⟨a, x0, x1, ex, hx, q⟩ := q1
  subst ex
  cases r1
  have hst : PO X (some (.UnaryOp .USub (.Constant (.int 1) k p1) p2)) (tPart (tUn (rU fun i => .int (-i)) (tC (.int 1)))) := po_some (pe_un un_neg pe_int)
  refine wpAny_Slice (thn (po_none.run pins s1 σ H1 (fun o H2 => o = none ∧ H2 = H1) I1 ⟨rfl, rfl⟩) fun vl s2 ⟨l, H2, I2, pl, el, e2⟩ => ?_)
  subst el e2
  refine thn (po_none.run pins s2 σ H2 (fun o H3 => o = none ∧ H3 = H2) I2 ⟨rfl, rfl⟩) fun vu s3 ⟨u, H3, I3, pu, eu, e3⟩ => ?_
  subst eu e3
  refine thn (hst.run pins s3 σ H3 (fun o H4 => o = some (-1) ∧ H4 = H3) I3 ⟨1, rfl, -1, rfl, rfl, rfl⟩) fun vs s4 ⟨o, H4, I4, ps, eo, e4⟩ => ?_
  subst eo e4
  cases pl
  cases pu
  cases ps with
  | int i tk =>
  have I5 : Inv X pins σ H4 { s4 with heap := s4.heap.push { cls := .type "slice", data := .fields #[.none, .none, .int (-1) tk] } } := I4.kept (t' := s4.toks) fun b ob q => Heap.get?_push_of_some _ q
  obtain ⟨its, r, ht, hz⟩ := I5.tuple hx
  obtain ⟨w0, w1, rfl, rv0, rv1⟩ := vals2 r
  show wpAny (model X.prog X.w) X.A (subscriptTail e (.Slice none none (some (.UnaryOp .USub (.Constant (.int 1) k p1) p2)) p3) (.ref a) (.ref s4.heap.objs.size)) (EP X pins σ Q) X.xe { s4 with heap := s4.heap.push { cls := .type "slice", data := .fields #[.none, .none, .int (-1) tk] } }
  refine tail_any (ops := [.ref a, .ref s4.heap.objs.size]) ht.typeIs PyProof.Rows.slot_tuple_getitem.lookup ?_ (by with_unfolding_all rfl)
  refine getItem_pair_rev ht (Heap.IsSliceOf.new _ _ _ _) ?_
  refine ⟨.ref _, _, I5.laid (t' := s4.toks) (o := .tup [x1, x0]) (fun b ob q => Heap.get?_push_of_some _ q) (Nat.le_refl _) ?_, rfl, q _ (I5.hok.fresh (Nat.le_refl _))⟩
  exact ⟨by show (2 : Nat) ≤ sizeLine; decide, _, .cons rv1 (.cons rv0 .nil), IsTup.new _ _⟩
/-! ### del d[t], the keys tuples -/
def sDDelT (td ty : TE) : TS := fun D σ H => td σ H fun x H1 => ty σ H1 fun y H2 => ∃ a kvs k b, x = .ref a ∧ H2 a = some (.dT kvs) ∧ y = .ref b ∧ H2 b = some (.tup (k.map kV)) ∧ (valV kvs k).isSome = true ∧ D.nx σ (upd H2 a (.dT (dropK kvs k)))
theorem ps_ddelT {o i : Expr} {pos tpos : Pos} {td ty : TE} (hu : X.A.units + 1 < cLine) (ho : PE X o td) (hi : PE X i ty) : PS X (.Delete [.Subscript o i tpos] pos) (sDDelT td ty) := by
  refine ⟨fun pins s σ H D I h => ?_⟩
  refine wpAny_Delete (wpAny_deleteEach_cons (wpAny_delete_Subscript (thn (ho.run pins s σ H _ I h) fun u s1 ⟨x, H1, I1, rx, q1⟩ => thn (hi.run pins s1 σ H1 _ I1 q1) fun iv s2 ⟨y, H2, I2, ry, a, kvs, k, b, ex, e, ey, eb, l, q2⟩ => ?_)))
  subst ex ey
  obtain rfl : u = Value.ref a := rx
  obtain rfl : iv = Value.ref b := ry
  obtain ⟨z, hd, xs, rel, dd⟩ := dt_of I2.hok e
  have hz : xs.length ≤ sizeLine := by rw [← Paired.length rel]; exact z
  obtain ⟨v0, ev⟩ := Option.isSome_iff_exists.mp l
  obtain ⟨w', hw, rw'⟩ := RelO.some_of (v := v0) (o := (atKey xs k).map (·.2)) (by rw [← ev]; exact rel.val k)
  obtain ⟨p, hp, hp2⟩ := Option.map_eq_some_iff.mp hw
  refine wpAny_delItem_heap (hsz := hz) (knd := tupleKind (mixKind X.prog X.w)) (tupleKind_room_in1 hu) (key_of I2.hok eb) hd dd hp fun h' dd' hs => ?_
  obtain ⟨q, es, ep, hq, h2, h3, h4, _, h5⟩ := dd'
  have I3 : Inv X pins σ (upd H2 a (.dT (dropK kvs k))) { s2 with heap := h', toks := s2.toks + (tupleKind (mixKind X.prog X.w)).draws k } :=
    d_write I2 (by rw [e]; exact True.intro) hs ⟨q, hq⟩ ⟨Nat.le_trans (dropK_le kvs k) z, hd, _, (DX.KT_drop k rel).keeps (fun c ys ec => (by rw [upd_ne (ne_of ec e (fun z => nomatch z))]; exact ec)), q, es, ep, hq, h2, h3, h4, h5⟩
  exact wpAny_deleteEach_nil ⟨σ, _, I3, q2⟩
end
end Vf

namespace Vf
open PySem L2 PySem.Spec PyProof.Rows He
theorem un65 {k : Nat} {A : Around} (r : Room k A) : A.units + 65 < cLine := by have := r.un; omega
/-! ### d.values() of a dict whose keys are tuples -/
def Itdt (d : Addr) (o : Obj) (kvs : List (List L2.Key × V)) : It :=
  ⟨fun i H => H d = some (.frz o (.dT kvs)) ∧ i < kvs.length, fun i H x H' => H' = H ∧ ∃ k, kvs[i]? = some (k, x), fun i H => H d = some (.frz o (.dT kvs)) ∧ kvs.length ≤ i⟩
theorem frzTV {X : Cx} {pins : List (Addr × Obj)} {σ : L2.St} {H : Hp} {s : Shared} {d : Addr} {o : Obj} {kvs : List (List L2.Key × V)} (I : Inv X pins σ H s) (h : H d = some (.frz o (.dT kvs))) :
    (d == sysModules) = false ∧ ∃ (es : Array DictEntry) (ep : Nat), o.data = .dict es ep ∧ s.heap.DictRaw d es ep ∧ es.size = kvs.length ∧
      ∀ (i : Nat) (k : List L2.Key) (v : V), kvs[i]? = some (k, v) → ∃ hi : i < es.size, RelV v es[i].val := by
  obtain ⟨hd, z, hs, xs, pr, o', es, ep, ho, hx, hdt, he, _⟩ := I.hok d _ h
  rw [hd] at ho
  cases ho
  have l1 : es.size = xs.length := size_of_entries he
  have l2 : kvs.length = xs.length := Paired.length pr
  refine ⟨hs, es, ep, hdt, ⟨o, hd, hx, hdt⟩, by omega, fun i k v e => ?_⟩
  obtain ⟨b, hb, e1, e2, e3⟩ := L2.paired_get pr e
  have q := entry_at he i
  rw [hb] at q
  obtain ⟨hi, q2⟩ := Array.getElem?_eq_some_iff.mp q
  exact ⟨hi, by rw [q2]; exact e3⟩
section
variable {P : Program} {w : World} {K : PySem.W.Frag} {tg : Expr} {d : Addr} {o : Obj} {es : Array DictEntry} {ep : Nat}
theorem turn_valsT {kvs : List (List L2.Key × V)} (it : Addr) (hod : o.data = .dict es ep) (hz : es.size = kvs.length) : Turn P w K tg (Itdt d o kvs) [it] it (fun i h => h.IsValIter it d i es.size ep) where
  mem := by simp
  obj := fun i h st b hb => by
    have e : b = it := by simpa using hb
    subst e
    obtain ⟨oi, e, c, dd⟩ := st
    exact ⟨oi, e, fun v z => by rw [dd] at z; cases z⟩
  keep := fun i h h' st k => st.at fun oi e => k it (by simp) oi e
  item := by
    intro X hP hw hK hc i pins s σ H E I hf st hg
    subst hP hw hK
    obtain ⟨hd, hi⟩ := hg
    obtain ⟨f0, f1, f2, f3, f4, f5⟩ := hf it (by simp)
    obtain ⟨hs, es', ep', hdt, hm, hsz, ent⟩ := frzTV I hd
    obtain ⟨rfl, rfl⟩ := dict_ep hod hdt
    obtain ⟨⟨k, v⟩, hkv⟩ : ∃ p, kvs[i]? = some p := ⟨kvs[i], List.getElem?_eq_getElem hi⟩
    obtain ⟨hi2, ru⟩ := ent i k v hkv
    refine PySem.wpAny_pyNext_values_item_raw st hm hi2 fun h' st' sb => ?_
    have I1 : Inv X pins σ H { s with heap := h' } := I.turned (t' := s.toks) (fun b ob hb e => (sb.2 b hb).trans e) f0 f1 f3 f4 f5
    obtain ⟨oi, e, c, dd⟩ := id st'
    exact ⟨_, rfl, go_of (s := { s with heap := h' }) e c dd (by decide) ⟨v, H, I1, ru, ⟨rfl, k, hkv⟩, st', fun b hb => (hf b hb).1⟩⟩
  done := by
    intro X hP hw hK hc i pins s σ H E I hf st hg
    subst hP hw hK
    obtain ⟨hd, hi⟩ := hg
    obtain ⟨f0, f1, f2, f3, f4, f5⟩ := hf it (by simp)
    obtain ⟨hs, es', ep', hdt, hm, hsz, ent⟩ := frzTV I hd
    obtain ⟨rfl, rfl⟩ := dict_ep hod hdt
    exact PySem.wpAny_pyNext_values_end_raw (I.ok.hd hc) st hm (by omega) fun h' eb => ⟨rfl, I.turned (t' := s.toks) (fun b ob hb e => eb b ob hb e) f0 f1 f3 f4 f5⟩
  self := fun A i s Q E st h => wpAny_pyIter_valiter st h
end
section
variable {X : Cx} {tg e : Expr} {td : TE} {apos cpos : Pos}
def iValsT (td : TE) : TI := fun σ H R => td σ H fun x H1 => ∃ d o kvs, x = .ref d ∧ H1 d = some (.frz o (.dT kvs)) ∧ R (Itdt d o kvs) H1
theorem pi_valuesT (he : PE X e td) (hbase : attributeBase e "values" X.env (eval e X.env) = eval e X.env := by rfl) (hline : (apos.endLine == cpos.line) = true := by rfl) : PI X tg (.Call (.Attribute e "values" apos) [] [] cpos) (iValsT td) := by
  refine ⟨fun pins s σ H R I h => ?_⟩
  refine wpAny_Call_method (T := "dict") (id := "dict.values") hbase rfl hline F.plainAttrs_dict F.slot_dict_values F.type_dict_values (thn (he.run pins s σ H _ I h) fun u s1 ⟨x, H1, I1, rx, d, o, kvs, ex, hd, q⟩ => ?_)
  subst ex
  obtain rfl : u = Value.ref d := rx
  obtain ⟨hs, es, ep, hdt, hm, hsz, ent⟩ := frzTV I1 hd
  have hnd : ∃ o, s1.heap.get? d = some o ∧ o.ExactDict := by
    obtain ⟨hd2, z, hs2, xs, pr, o', es', ep', ho, hx, _⟩ := I1.hok d _ hd
    exact ⟨o', ho, hx⟩
  obtain ⟨od, hod, hxd⟩ := hnd
  refine ⟨hm.typeIs, fun a ha => (by cases ha; exact ⟨od, hod, hxd.2.1⟩), ?_⟩
  have I2 : Inv X pins σ H1 { s1 with heap := s1.heap.push { cls := .type "dict_values", data := .fields #[.ref d] } } := I1.kept (t' := s1.toks) fun b ob q => Heap.get?_push_of_some _ q
  have fin : wpAny (model X.prog X.w) X.A (pyIter (.ref s1.heap.objs.size)) (PIE X pins σ tg R) X.xe { s1 with heap := s1.heap.push { cls := .type "dict_values", data := .fields #[.ref d] } } := by
    refine PySem.wpAny_pyIter_values_raw (d := d) (es := es) (ep := ep) ⟨_, Heap.get?_push_size _ rfl, rfl, rfl⟩ (hm.at fun _ e => Heap.get?_push_of_some _ e) (pi_one (tk := s1.toks) I2 _ (turn_valsT _ hdt hsz) ⟨_, Heap.get?_push_size _ rfl, rfl, ?_⟩ q)
    rfl
  show wpAny _ _ (callWith cpos (.builtin "dict.values") [.ref d] [] []) _ X.xe s1
  exact method_meetsIn F.slot_dict_values F.entry_dict_values rfl (PySem.evalArgs_none ⟨rfl, hm.typeIs, F.args_dict_values_1 _, _, PySem.meets_dict_values_raw d hs, ⟨es, ep, hm⟩, fin⟩)
theorem walk_valsT {kvs : List (List L2.Key × V)} {d : Addr} {o : Obj} : Walk (Itdt d o kvs) kvs.length (fun H => H d = some (.frz o (.dT kvs))) (fun i H x H' => H' = H ∧ ∃ k, kvs[i]? = some (k, x)) :=
  ⟨fun _ _ hi q => ⟨q, hi⟩, fun _ q => ⟨q, Nat.le_refl _⟩, fun _ _ _ _ _ _ y => y⟩
end
end Vf

namespace Vf
open PySem L2 PySem.Spec PyProof.Rows He
/-- a name that the top imports -/
def bfB (x : Str) (id : String) (K : PySem.W.Frag) : Bool := eqO (PySem.W.nsIn K mainGlobals x) (some (some (.builtin id)))
theorem bfB_ok {K : PySem.W.Frag} {h : Heap} {mg : Str → Option Value} (X : K.In h) (G : h.Ns mainGlobals mg) {x : Str} {id : String} (c : bfB x id K = true) : mg x = some (.builtin id) := PySem.W.mg_of X G (eqO_ok c)
/-- s.index(y), y found -/
theorem mt_idxS {X : Cx} : MtR X "str.index" (fun x xs H Q => ∃ (a b : Str) (k : Nat), x = .str a ∧ xs = [.str b] ∧ Txt.index0 a b = some k ∧ Q (.int (k : Nat)) H) := by
  intro pins s σ H x xs v us Q I rx rs h
  obtain ⟨a, b, k, rfl, rfl, hy, hq⟩ := h
  obtain ⟨t, rfl⟩ := rx
  cases rs with
  | cons r1 rs =>
    cases rs
    obtain ⟨u, rfl⟩ := r1
    cases q : Builtin.Str.occurrences a b 0 a.length 1 with
    | nil =>
      unfold Txt.index0 at hy
      rw [q] at hy
      cases hy
    | cons k' rest =>
      unfold Txt.index0 at hy
      rw [q] at hy
      cases hy
      exact PySem.SC.index q ⟨.int (k : Nat), H, I.tok _, ⟨_, rfl⟩, hq⟩
/-- reversed(range(a, b, c)) -/
def PRg3 (X : Cx) (e : Expr) (t : L2.St → Hp → (Int → Int → Int → Nat → Hp → Prop) → Prop) : Prop :=
  ∀ (pins : List (Addr × Obj)) (s : Shared) (σ : L2.St) (H : Hp) (Q : Int → Int → Int → Nat → Hp → Prop), Inv X pins σ H s → t σ H Q →
    wpAny (model X.prog X.w) X.A (eval e X.env) (fun x s' => ∃ r a b c n t u v H', x = .ref r ∧ IsRange s'.heap r a b c t u v ∧ Builtin.Range.handS_smallRev a b c = true ∧ Builtin.Range.rangeSize a b c = (n : Nat) ∧ Inv X pins σ H' s' ∧ Q a b c n H') X.xe s
def tRg3 (ta : TA) : L2.St → Hp → (Int → Int → Int → Nat → Hp → Prop) → Prop := fun σ H Q => ta σ H fun vs H1 => ∃ i j k n, vs = [.int i, .int j, .int k] ∧ RgC i j k n ∧ Builtin.Range.handS_smallRev i j k = true ∧ Q i j k n H1
theorem prg_3 {X : Cx} {a b c : Expr} {ta : TA} {p pos : Pos} (hg : Gl X "range") (hm : X.mg "range" = none) (ha : PA X [a, b, c] ta)
    (hs : starEach [a, b, c] X.env = (false, eval a X.env) :: starEach [b, c] X.env := by rfl) (hpl : (backTo pos (starEach [b, c] X.env)).any (·.1) = false := by rfl) : PRg3 X (.Call (.Name "range" p) [a, b, c] [] pos) (tRg3 ta) := by
  intro pins s σ H Q I h
  refine Call_ (ld_blt I hg hm boot_range (PyProof.Rows.callWith_type1 (thn (ha.run pos pins s σ H _ I h) fun us s1 ⟨vs, H1, I1, r1, q1⟩ => ?_) hs hpl))
  obtain ⟨i, j, k, n, e, ⟨c0, c1, c2, c3⟩, hr, q⟩ := q1
  subst e
  cases r1 with
  | cons r rr =>
    cases rr with
    | cons r' rr =>
      cases rr with
      | cons r'' rr =>
        cases rr
        obtain ⟨t, rfl⟩ := r
        obtain ⟨t', rfl⟩ := r'
        obtain ⟨t'', rfl⟩ := r''
        exact call_range_3 c0 ⟨_, i, j, k, n, _, _, _, H1, rfl, IsRange.new .., hr, c3, I1.kept fun b u e => Heap.get?_push_of_some _ e, q⟩ (.inl (PyProof.noPylong_small c1))
def iRevR3 (tr : L2.St → Hp → (Int → Int → Int → Nat → Hp → Prop) → Prop) : TI := fun σ H R => tr σ H fun a _ c n H1 => R (Itc (a + ((n : Int) - 1) * c) (-c) n) H1
theorem pi_revR3 {X : Cx} {tg e : Expr} {tr : L2.St → Hp → (Int → Int → Int → Nat → Hp → Prop) → Prop} {p pos : Pos} (hg : Gl X "reversed") (hm : X.mg "reversed" = none) (he : PRg3 X e tr) (hs : starEach [e] X.env = (false, eval e X.env) :: starEach [] X.env := by rfl) :
    PI X tg (.Call (.Name "reversed" p) [e] [] pos) (iRevR3 tr) := by
  refine ⟨fun pins s σ H R I h => ?_⟩
  refine Call_ (ld_blt I hg hm PyProof.Rows.boot_reversed (PyProof.Rows.callWith_type1 (args_cons (thn (he pins s σ H _ I h) fun u s1 hx => args_nil ?_) hs) hs rfl))
  obtain ⟨r, a, b, c, n, t, w1, v, H1, eu, hr, hsm, hn, I1, q⟩ := hx
  subst eu
  refine call_reversed_range hr hsm (wpAny_pyIter_rangeiter (Heap.get?_push_size _ rfl) ?_)
  refine pi_one (tk := s1.toks) I1 _ (turn_rangeC _ (a + ((n : Int) - 1) * c) (-c) n) ?_ q
  have e1 : a + ((n : Int) - 1) * c + ((0 : Nat) : Int) * (-c) = a + (Builtin.Range.rangeSize a b c - 1) * c := by
    rw [hn]
    show _ + (0 : Int) * (-c) = _
    rw [Int.zero_mul, Int.add_zero]
  have e2 : (n : Int) - ((0 : Nat) : Int) = Builtin.Range.rangeSize a b c := by rw [hn]; omega
  show IsRangeIter _ _ (a + ((n : Int) - 1) * c + ((0 : Nat) : Int) * (-c)) ((n : Int) - ((0 : Nat) : Int)) (-c)
  rw [e1, e2]
  exact Heap.get?_push_size _ rfl
theorem pi_tupK {X : Cx} {tg e : Expr} {te : TE} (K : PySem.W.Frag) (h : PE X e te) (hK : X.K = K := by rfl) : PI X tg e (iTup K te) := hK ▸ pi_tup h
theorem pi_listK {X : Cx} {tg e : Expr} {te : TE} (K : PySem.W.Frag) (h : PE X e te) (hK : X.K = K := by rfl) : PI X tg e (iList K te) := hK ▸ pi_list h
end Vf

namespace Vf
open PySem L2 PySem.Spec PyProof.Rows
/-! ### max(xs, key=f): xs a list of references, f an own def whose answers are data of one form -/
theorem run_in {X : Cx} {k : Nat} {f : Addr} {fd : FuncData} {ps : List Str} {sp : Sp} (F : FnOk X.prog X.w X.K X.mg X.base CX0 k f fd ps sp) (hb : Binds X.K fd ps []) {B : Around} (hr : Room k B) (hB : B.frames = X.A.frames)
    {pins : List (Addr × Obj)} {σ : L2.St} {H : Hp} {s : Shared} (I : Inv X pins σ H s) {vs : List V} {us : List Value} (r : Vals vs us) {Q : VK} (h : sp vs H Q E0) {T E : Value → Shared → Prop}
    (hT : ∀ u s', EP X pins σ Q u s' → T u s') : wpAny (model X.prog X.w) B (call (.ref f) us) T E s := by
  have hl : us.length = ps.length := by rw [← r.length]; exact F.len _ _ _ _ h
  have e0 : Env0 X.prog X.w X.K X.mg X.base B X.stack s H := by
    have e := I.env0
    exact ⟨hB.trans e.frames, e.mod, e.bs, e.bsz, e.funs, e.frf, e.hok, e.bare⟩
  have b0 := hb s us I.kIn (by rw [List.append_nil]; exact hl)
  rw [List.append_nil] at b0
  refine wpAny_call (codeAny_mono (F.run B X.stack s H ⟨us, []⟩ us vs Q E0 hr e0 b0 r h) fun r s' hq => ?_)
  cases r with
  | error e => exact False.elim hq
  | ok fl =>
    cases fl with
    | ret u => exact hT u s' (I.after hq)
    | next => exact False.elim hq
    | brk => exact False.elim hq
    | cont => exact False.elim hq
structure MxK (K : PySem.W.Frag) (sp : Sp) (a : Addr) (ps : List Addr) (kd : Nat → PyData) (J : Hp → Prop) : Prop where
  lst : ∀ H, J H → SqL K H a (ps.map V.ref)
  turn : ∀ i p H, ps[i]? = some p → J H → sp [.ref p] H (fun y H' => J H' ∧ (∀ z d, Dp K H z d → Dp K H' z d) ∧ Dp K H' y (kd i)) E0
  alk : ∀ i j, i < ps.length → j < ps.length → PySem.W.alike (kd i) (kd j) = true
  nn : ∀ i, i < ps.length → kd i ≠ .none
  dep : ∀ i, i < ps.length → (kd i).depth ≤ 60
abbrev mxB (kd : Nat → PyData) (i j : Nat) : Bool := PySem.W.dataLt (kd j) (kd i)
theorem argBest_lt (bt : Nat → Nat → Bool) : ∀ j, argBest bt j ≤ j
  | 0 => Nat.le_refl _
  | j + 1 => by
    have ih := argBest_lt bt j
    show (if bt (j + 1) (argBest bt j) = true then j + 1 else argBest bt j) ≤ j + 1
    split <;> omega
def mxS (v : Value) (kb : Value) (c : Nat) : Obj := { cls := .type "list", dict := none, data := .seq #[v, kb] c, slots := #[] }
structure MxSt (X : Cx) (pins : List (Addr × Obj)) (σ : L2.St) (a : Addr) (ps : List Addr) (kd : Nat → PyData) (J : Hp → Prop) (S it : Addr) (j : Nat) (s : Shared) : Prop where
  ex : ∃ (H : Hp) (y : V) (kb : Value) (c : Nat) (p : Addr), Inv X pins σ H s ∧ J H ∧ RelV y kb ∧ Dp X.K H y (kd (argBest (mxB kd) j)) ∧ ps[argBest (mxB kd) j]? = some p ∧ (FpOk X pins H S ∧ FpOk X pins H it) ∧ S ≠ it ∧
    s.heap.get? S = some (mxS (.ref p) kb c) ∧ s.heap.IsListIter it a (j + 1)
section
variable {X : Cx} {k : Nat} {f a : Addr} {fd : FuncData} {nm : List Str} {sp : Sp} {pins : List (Addr × Obj)} {σ : L2.St} {ps : List Addr} {kd : Nat → PyData} {J : Hp → Prop} {S it : Addr} {R : Result → Shared → Prop}
theorem fp_at {H H' : Hp} {b : Addr} (h : FpOk X pins H b) (n : H' b = none) : FpOk X pins H' b := ⟨n, h.2⟩
theorem iter_nocell {h : Heap} {it a : Addr} {i : Nat} (st : h.IsListIter it a i) : ∃ o, h.get? it = some o ∧ ∀ v, o.data ≠ .cell v := by
  obtain ⟨o, e, c, d⟩ := st
  exact ⟨o, e, fun v z => by rw [d] at z; cases z⟩
/-- f at the item, S and the iterator held -/
theorem mx_turn (F : FnOk X.prog X.w X.K X.mg X.base CX0 k f fd nm sp) (hb : Binds X.K fd nm []) (hr : Room (k + 1) X.A) (M : MxK X.K sp a ps kd J) {H : Hp} {s : Shared} {i m : Nat} {p : Addr} {o : Obj} (hp : ps[i]? = some p) (I : Inv X pins σ H s) (hJ : J H)
    (fS : FpOk X pins H S) (fI : FpOk X pins H it) (hS : s.heap.get? S = some o) (hoc : ∀ v, o.data ≠ .cell v) (st : s.heap.IsListIter it a m) {T E : Value → Shared → Prop}
    (hT : ∀ u s' H' y, Inv X pins σ H' s' → J H' → RelV y u → Dp X.K H' y (kd i) → (∀ z d, Dp X.K H z d → Dp X.K H' z d) → FpOk X pins H' S → FpOk X pins H' it → s'.heap.get? S = some o → s'.heap.IsListIter it a m → T u s') :
    wpAny (model X.prog X.w) X.A.in1 (call (.ref f) [.ref p]) T E s := by
  have I' : Inv X (pins ++ pinsAt [S, it] s.heap) σ H s := I.pinned (fp := [S, it]) (fun b hb' => by
      rcases List.mem_cons.mp hb' with e | hb'
      · rw [e]; exact fS
      · rw [List.mem_singleton.mp hb']; exact fI) (fun b hb' => by
      rcases List.mem_cons.mp hb' with e | hb'
      · rw [e]; exact ⟨o, hS, hoc⟩
      · rw [List.mem_singleton.mp hb']; exact iter_nocell st)
  refine run_in F hb hr.in1 rfl I' (vs := [.ref p]) (.cons rfl .nil) (M.turn i p H hp hJ) fun u s' q => ?_
  obtain ⟨y, H', I2, ry, j2, dk, dy⟩ := q
  obtain ⟨oi, hi, ci⟩ := iter_nocell st
  have pS := I2.pin (S, o) (List.mem_append_right _ (List.mem_append_right _ (mem_pinsAt (by simp) hS)))
  have pI := I2.pin (it, oi) (List.mem_append_right _ (List.mem_append_right _ (mem_pinsAt (by simp) hi)))
  refine hT u s' H' y I2.unpinned j2 ry dy dk (fp_at fS pS.2.1) (fp_at fI pI.2.1) pS.1 (st.at fun o' e => ?_)
  rw [hi] at e
  cases e
  exact pI.1
theorem mx_loop (F : FnOk X.prog X.w X.K X.mg X.base CX0 k f fd nm sp) (hb : Binds X.K fd nm []) (hr : Room (k + 1) X.A) (M : MxK X.K sp a ps kd J) (kw : List (Str × Value)) :
    ∀ (m j : Nat) (s : Shared), ps.length - (j + 1) = m → j + 1 ≤ ps.length → MxSt X pins σ a ps kd J S it j s →
    (∀ (H' : Hp) (s' : Shared) (p : Addr), Inv X pins σ H' s' → J H' → ps[argBest (mxB kd) (ps.length - 1)]? = some p → R (.ok (.ret (.ref p))) s') → codeAny (model X.prog X.w) X.A (.builtin "max.loop" ⟨[.ref it, .ref f, .ref S], kw⟩) R s := by
  have hname : (toString "max" ++ toString ".loop" : String) = "max.loop" := by decide
  intro m
  induction m with
  | zero =>
    intro j s hm hj ⟨H, y, kb, c, p, I, hJ, ry, dy, hp, ⟨fS, fI⟩, ne, hS, st⟩ hR
    obtain ⟨its, rv, pl, hz⟩ := I.list (M.lst H hJ)
    have hl := rv.length
    rw [List.length_map] at hl
    refine codeAny_builtin PySem.F.entry_max_loop ?_
    rw [Around.under_plainId PySem.F.plain_max_loop _]
    show wpAny _ X.A.in1 (seqItems? (.ref S) >>= _) _ _ s
    refine wpAny_bind (wpAny_seqItems hS rfl ?_)
    refine wpAny_bind (wpAny_tryCatch ?_)
    refine wpAny_pyNext_list_end hr.hd st pl.isList (by simp; omega) fun h' eb => ?_
    have I1 : Inv X pins σ H { s with heap := h' } := I.turned (t' := s.toks) (fun b o hb e => eb b o hb e) fI.1 fI.2.1 fI.2.2.2.1 fI.2.2.2.2.1 fI.2.2.2.2.2
    have hS' : ({ s with heap := h' } : Shared).heap.get? S = some (mxS (.ref p) kb c) := eb S _ ne hS
    show wpAny _ X.A.in1 (updateSeq S (fun _ => #[]) >>= _) _ _ _
    refine wpAny_bind (wpAny_updateSeq hS' rfl (wpAny_bind (wpAny_letGo (wpAny_pure ?_))))
    have I2 := I1.turned (it := S) (t' := s.toks) (h' := h'.update S (Obj.mapSeq fun _ => #[])) (fun b o hb e => (Heap.get?_update_other _ _ (Ne.symm hb)).trans e) fS.1 fS.2.1 fS.2.2.2.1 fS.2.2.2.2.1 fS.2.2.2.2.2
    refine hR H _ p I2 hJ ?_
    rw [show ps.length - 1 = j from by omega]
    exact hp
  | succ m ih =>
    intro j s hm hj ⟨H, y, kb, c, p, I, hJ, ry, dy, hp, ⟨fS, fI⟩, ne, hS, st⟩ hR
    obtain ⟨its, rv, pl, hz⟩ := I.list (M.lst H hJ)
    have hlt : j + 1 < ps.length := by omega
    have hx : ps[j + 1]? = some ps[j + 1] := List.getElem?_eq_getElem hlt
    obtain ⟨u, hu, ru⟩ := rv.get (i := j + 1) (x := .ref ps[j + 1]) (by rw [List.getElem?_map, hx]; rfl)
    cases ru
    generalize ps[j + 1] = q at hx hu
    refine codeAny_builtin PySem.F.entry_max_loop ?_
    rw [Around.under_plainId PySem.F.plain_max_loop _]
    show wpAny _ X.A.in1 (seqItems? (.ref S) >>= _) _ _ s
    refine wpAny_bind (wpAny_seqItems hS rfl ?_)
    refine wpAny_bind (wpAny_tryCatch ?_)
    refine wpAny_pyNext_list_item st pl.isList (x := .ref q) (by simpa using hu) fun h' st' sb => ?_
    have I1 : Inv X pins σ H { s with heap := h' } := I.turned (t' := s.toks) (fun b o hb e => (sb.2 b hb).trans e) fI.1 fI.2.1 fI.2.2.2.1 fI.2.2.2.2.1 fI.2.2.2.2.2
    have hS' : ({ s with heap := h' } : Shared).heap.get? S = some (mxS (.ref p) kb c) := (sb.2 S ne).trans hS
    refine wpAny_bind (wpAny_tryCatch (wpAny_holding (mx_turn F hb hr M hx I1 hJ fS fI hS' (fun v z => nomatch z) st' fun kx s2 H2 y2 I2 j2 ry2 dy2 dk fS2 fI2 hS2 st2 => ?_)))
    have dy3 := dk _ _ dy
    have hbl := argBest_lt (mxB kd) j
    obtain ⟨as1, r1⟩ := Dp.reads I2 _ _ _ dy2 ry2
    obtain ⟨as2, r2⟩ := Dp.reads I2 _ _ _ dy3 ry
    refine wpAny_bind (wpAny_tryCatch (wpAny_holding (wpAny_bind (PySem.W.gt_data r1 r2 (M.alk _ _ hlt (by omega)) (M.nn _ hlt) (by
      have h1 := Nat.min_le_left (kd (j + 1)).depth (kd (argBest (mxB kd) j)).depth
      have h2 := M.dep _ hlt
      have h3 := hr.un
      show X.A.units + 1 + _ < _
      omega) ?_))))
    refine wpAny_bind (wpAny_holding (wpAny_truthy_bool ?_))
    refine wpAny_bind (wpAny_letGo (wpAny_pure ?_))
    have eB : argBest (mxB kd) (j + 1) = if PySem.W.dataLt (kd (argBest (mxB kd) j)) (kd (j + 1)) = true then j + 1 else argBest (mxB kd) j := rfl
    cases hcmp : PySem.W.dataLt (kd (argBest (mxB kd) j)) (kd (j + 1)) with
    | true =>
      rw [hcmp, if_pos rfl] at eB
      simp only [if_true]
      refine wpAny_bind (wpAny_updateSeq hS2 rfl (wpAny_bind (wpAny_letGo ?_)))
      rw [hname]
      refine wpAny_pure ⟨plainId_quiet PySem.F.plain_max_loop _, ih (j + 1) _ (by omega) hlt ⟨H2, y2, kx, c, q, ?_, j2, ry2, by rw [eB]; exact dy2, by rw [eB]; exact hx, ⟨fS2, fI2⟩, ne, ?_, st2.at fun o e => ?_⟩ hR⟩
      · exact I2.turned (it := S) (t' := s2.toks) (fun b o hb e => (Heap.get?_update_other _ _ (Ne.symm hb)).trans e) fS2.1 fS2.2.1 fS2.2.2.2.1 fS2.2.2.2.2.1 fS2.2.2.2.2.2
      · exact Heap.get?_update_self _ hS2 rfl
      · exact (Heap.get?_update_other _ _ ne).trans e
    | false =>
      rw [hcmp, if_neg Bool.false_ne_true] at eB
      simp only [Bool.false_eq_true, if_false]
      refine wpAny_bind (wpAny_letGo ?_)
      rw [hname]
      exact wpAny_pure ⟨plainId_quiet PySem.F.plain_max_loop _, ih (j + 1) _ (by omega) hlt ⟨H2, y, kb, c, p, I2, j2, ry, by rw [eB]; exact dy3, by rw [eB]; exact hp, ⟨fS2, fI2⟩, ne, hS2, st2⟩ hR⟩
end
section
variable {X : Cx} {k : Nat} {f a : Addr} {fd : FuncData} {nm : List Str} {sp : Sp} {pins : List (Addr × Obj)} {σ : L2.St} {ps : List Addr} {kd : Nat → PyData} {J : Hp → Prop}
theorem mx_start (F : FnOk X.prog X.w X.K X.mg X.base CX0 k f fd nm sp) (hb : Binds X.K fd nm []) (hr : Room (k + 1) X.A) (M : MxK X.K sp a ps kd J) {S it : Addr} {R : Result → Shared → Prop} (kw : List (Str × Value)) (hn : 0 < ps.length) {H : Hp} {s : Shared} {c : Nat} (I : Inv X pins σ H s) (hJ : J H)
    (fS : FpOk X pins H S) (fI : FpOk X pins H it) (ne : S ≠ it) (hS : s.heap.get? S = some { cls := .type "list", dict := none, data := .seq #[] c, slots := #[] }) (st : s.heap.IsListIter it a 0)
    (hR : ∀ (H' : Hp) (s' : Shared) (p : Addr), Inv X pins σ H' s' → J H' → ps[argBest (mxB kd) (ps.length - 1)]? = some p → R (.ok (.ret (.ref p))) s') : codeAny (model X.prog X.w) X.A (.builtin "max.loop" ⟨[.ref it, .ref f, .ref S], kw⟩) R s := by
  have hname : (toString "max" ++ toString ".loop" : String) = "max.loop" := by decide
  obtain ⟨its, rv, pl, hz⟩ := I.list (M.lst H hJ)
  have hx : ps[0]? = some ps[0] := List.getElem?_eq_getElem hn
  obtain ⟨u, hu, ru⟩ := rv.get (i := 0) (x := .ref ps[0]) (by rw [List.getElem?_map, hx]; rfl)
  cases ru
  generalize ps[0] = q at hx hu
  refine codeAny_builtin PySem.F.entry_max_loop ?_
  rw [Around.under_plainId PySem.F.plain_max_loop _]
  show wpAny _ X.A.in1 (seqItems? (.ref S) >>= _) _ _ s
  refine wpAny_bind (wpAny_seqItems hS rfl ?_)
  refine wpAny_bind (wpAny_tryCatch ?_)
  refine wpAny_pyNext_list_item st pl.isList (x := .ref q) (by simpa using hu) fun h' st' sb => ?_
  have I1 : Inv X pins σ H { s with heap := h' } := I.turned (t' := s.toks) (fun b o hb e => (sb.2 b hb).trans e) fI.1 fI.2.1 fI.2.2.2.1 fI.2.2.2.2.1 fI.2.2.2.2.2
  have hS' : ({ s with heap := h' } : Shared).heap.get? S = some { cls := .type "list", dict := none, data := .seq #[] c, slots := #[] } := (sb.2 S ne).trans hS
  refine wpAny_bind (wpAny_tryCatch (wpAny_holding (mx_turn F hb hr M hx I1 hJ fS fI hS' (fun v z => nomatch z) st' fun kx s2 H2 y2 I2 j2 ry2 dy2 dk fS2 fI2 hS2 st2 => ?_)))
  refine wpAny_bind (wpAny_updateSeq hS2 rfl ?_)
  rw [hname]
  refine wpAny_pure ⟨plainId_quiet PySem.F.plain_max_loop _, mx_loop F hb hr M kw _ 0 _ rfl hn ⟨H2, y2, kx, c + 1, q, ?_, j2, ry2, dy2, hx, ⟨fS2, fI2⟩, ne, ?_, st2.at fun o e => ?_⟩ hR⟩
  · exact I2.turned (it := S) (t' := s2.toks) (fun b o hb e => (Heap.get?_update_other _ _ (Ne.symm hb)).trans e) fS2.1 fS2.2.1 fS2.2.2.2.1 fS2.2.2.2.2.1 fS2.2.2.2.2.2
  · exact Heap.get?_update_self _ hS2 rfl
  · exact (Heap.get?_update_other _ _ ne).trans e
/-- the best of a row, the first of equals -/
abbrev mxI (kd : Nat → PyData) (n : Nat) : Nat := argBest (mxB kd) (n - 1)
def rMaxF (K : PySem.W.Frag) (sp : Sp) : List V → Hp → VK → Prop := fun vs H Q => ∃ (a : Addr) (ps : List Addr) (kd : Nat → PyData) (J : Hp → Prop), vs = [.ref a] ∧ 0 < ps.length ∧ J H ∧ MxK K sp a ps kd J ∧
  ∀ H' p, J H' → ps[mxI kd ps.length]? = some p → Q (.ref p) H'
theorem cr_maxF (F : FnOk X.prog X.w X.K X.mg X.base CX0 k f fd nm sp) (hb : Binds X.K fd nm []) (hr : Room (k + 1) X.A) : CallRK X (.builtin "max") [Str.ofString "key"] (fun vs zs H Q => zs = [.ref f] ∧ rMaxF X.K sp vs H Q) := by
  intro pins s σ H vs zs us ws Q I r rz hq
  obtain ⟨rfl, a, ps, kd, J, rfl, hn, hJ, M, q⟩ := hq
  obtain rfl := Vals.ref1 r
  obtain ⟨w1, rfl, e1⟩ := vals1 rz
  obtain rfl : w1 = Value.ref f := e1
  have hname : (toString "max" ++ toString ".loop" : String) = "max.loop" := by decide
  refine PyProof.Rows.kmk_tree PySem.F.kind_max PySem.F.plain_max PySem.F.entry_max (PyProof.Rows.kmk_max_key _ _) ?_
  refine wpAny_bind (wpAny_of_eq (a := [some (.ref f), none]) (by rfl) ?_)
  refine wpAny_bind (wpAny_pure ?_)
  obtain ⟨its, rv, pl, hz⟩ := I.list (M.lst H hJ)
  refine wpAny_bind (wpAny_pyIter_list pl.isList ?_)
  have I1 : Inv X pins σ H { s with heap := s.heap.push { cls := .type "list_iterator", data := .fields #[.ref a, .int 0 0] } } := I.kept (t' := s.toks) fun b o e => Heap.get?_push_of_some _ e
  have fI : FpOk X pins H s.heap.objs.size := I.fpOk (Nat.le_refl _) (I.hok.fresh (Nat.le_refl _))
  have st0 : ({ s with heap := s.heap.push { cls := .type "list_iterator", data := .fields #[.ref a, .int 0 0] } } : Shared).heap.IsListIter s.heap.objs.size a 0 := ⟨_, Heap.get?_push_size _ rfl, rfl, rfl⟩
  generalize hs1 : ({ s with heap := s.heap.push { cls := .type "list_iterator", data := .fields #[.ref a, .int 0 0] } } : Shared) = s1 at I1 st0 ⊢
  have sz1 : s1.heap.objs.size = s.heap.objs.size + 1 := by rw [← hs1]; exact size_push' ..
  have fS : FpOk X pins H s1.heap.objs.size := I1.fpOk (Nat.le_refl _) (I1.hok.fresh (Nat.le_refl _))
  refine wpAny_bind (wpAny_newObj_type ?_)
  rw [hname]
  have I2 : Inv X pins σ H { s1 with heap := s1.heap.push { cls := .type "list", data := .seq #[] 0 } } := I1.kept (t' := s1.toks) fun b o e => Heap.get?_push_of_some _ e
  exact wpAny_pure ⟨plainId_quiet PySem.F.plain_max_loop _, mx_start F hb hr M _ hn I2 hJ fS fI (fun z => by rw [sz1] at z; exact absurd z (Nat.succ_ne_self _)) (Heap.get?_push_size _ rfl) (st0.at fun o e => Heap.get?_push_of_some _ e) fun H' s' p I' hJ' hp => ⟨.ref p, H', I', rfl, q H' p hJ' hp⟩⟩
end
def tMaxF (K : PySem.W.Frag) (sp : Sp) (ta : TA) : TE := fun σ H Q => ta σ H fun vs H1 => rMaxF K sp vs H1 Q
theorem pe_maxF {X : Cx} {k j : Nat} {x : Str} {sp : Sp} {p p2 p3 pos : Pos} {e : Expr} {t : TA} (c : Cal X.prog X.w X.K X.mg X.base k x sp) (hr : Room j X.A) (hk : k + 1 ≤ j) (hg : Gl X "max") (hm : X.mg "max" = none) (hgx : Gl X x) (ha : PA X [e] t)
    (hdb : (x == ("__debug__" : Str)) = false := by decide)
    (he : backTo pos (starEach [e] X.env) = (false, eval e X.env) :: backTo pos (starEach [] X.env) := by rfl) (hpl : (backTo pos (starEach [e] X.env)).any (·.1) = false := by rfl)
    (hall : (backToKw pos (keywordEach [⟨some "key", .Name x p2, p3⟩] X.env)).all (·.1.isSome) = true := by rfl) (hnone : (backToKw pos (keywordEach [⟨some "key", .Name x p2, p3⟩] X.env)).any (·.1.isNone) = false := by rfl) (hks : (backToKw pos (keywordEach [⟨some "key", .Name x p2, p3⟩] X.env)).filterMap (·.1) = [Str.ofString "key"] := by rfl) :
    PE X (.Call (.Name "max" p) [e] [⟨some "key", .Name x p2, p3⟩] pos) (tMaxF X.K sp t) := by
  obtain ⟨f, fd, ps, F, hmx, hkp, hb⟩ := c.ex
  refine ⟨fun pins s σ H Q I h => ?_⟩
  refine wpAny_Call_Name_kw (ld_blt I hg hm (u := .builtin "max") (by first | rfl | decide +kernel) ?_ (by decide) (by decide))
  refine PyProof.Rows.callWith_kw (thn (ha.run pos pins s σ H _ I h) fun us s1 ⟨vs, H1, I1, r1, q1⟩ => thn ((pk_cons (pe_glob (v := .ref f) hgx hmx rfl hdb) pk_nil).run pos pins s1 σ H1 (fun zs H2 => zs = [V.ref f] ∧ rMaxF X.K sp vs H2 Q) I1 ⟨rfl, q1⟩) fun ws s2 ⟨zs, H2, I2, r2, q2⟩ => ?_) he hpl hall hnone
  rw [hks]
  exact cr_maxF F hb (hr.mono hk) pins s2 σ H2 vs zs us ws Q I2 r1 r2 q2
end Vf

namespace Vf
open PySem L2 PySem.Spec PyProof.Rows He
/-! ### a written tuple, known to be a plain one -/
def tTupP (t : TA) : TE := fun σ H Q => t σ H fun xs H1 => xs.length ≤ sizeLine ∧ ∀ p H', H1 p = none → Same H1 H' → PlT H' p xs → (∀ b, b ≠ p → H' b = H1 b) → Q (.ref p) H'
theorem pe_tupP {X : Cx} {es : List Expr} {x1} {pos : Pos} {t : TA} (h : PA X es t) : PE X (.Tuple es x1 pos) (tTupP t) := by
  refine ⟨fun pins s σ H Q I hq => ?_⟩
  refine wpAny_Tuple_spliced (thn (h.run pos pins s σ H _ I hq) fun us s1 ⟨xs, H1, I1, r, z, q⟩ => ⟨by rw [← r.length]; exact z, ?_⟩)
  have hf : H1 s1.heap.objs.size = none := I1.hok.fresh (Nat.le_refl _)
  have J : Inv X pins σ (upd H1 s1.heap.objs.size (.frz { cls := .type "tuple", data := .seq us.toArray } (.tup xs))) { s1 with heap := s1.heap.push { cls := .type "tuple", data := .seq us.toArray } } :=
    I1.laid (t' := s1.toks) (fun b u e => Heap.get?_push_of_some _ e) (Nat.le_refl _) ⟨Heap.get?_push_size _ rfl, z, us, r, ⟨_, Heap.get?_push_size _ rfl, rfl, _, rfl⟩⟩
  exact ⟨.ref s1.heap.objs.size, _, J, rfl, q _ _ hf (same_new hf) ⟨_, rfl, upd_same⟩ fun b hb => upd_ne hb⟩
theorem e_tupP {t : TA} {σ : L2.St} {H : Hp} {Q : VK} (q : t σ H fun xs H1 => xs.length ≤ sizeLine ∧ ∀ p H', H1 p = none → Same H1 H' → PlT H' p xs → (∀ b, b ≠ p → H' b = H1 b) → Q (.ref p) H') : tTupP t σ H Q := q
/-! ### an own class beside lists -/
def clsLB (x : Str) (K : PySem.W.Frag) : Bool := decide (PySem.W.kitOne K (.type "list") (.ref (ga K x)) = some false) && PySem.W.notFirst K (ga K x) (.type "list")
structure ClsL (K : PySem.W.Frag) (x : Str) : Prop where
  lst : PySem.W.kitOne K (.type "list") (.ref (ga K x)) = some false
  nf : PySem.W.notFirst K (ga K x) (.type "list") = true
theorem clsLB_ok {x : Str} {K : PySem.W.Frag} (c : clsLB x K = true) : ClsL K x := by
  unfold clsLB at c
  obtain ⟨c1, c2⟩ := ba c
  exact ⟨of_decide_eq_true c1, c2⟩
/-- x == y, x an instance with its own __eq__; y one too, a tuple or a list -/
def rEqOL (K : PySem.W.Frag) (C : Addr) (sp : Sp) (E : XK) : R2 := fun x y H Q => ∃ (a b dx : Addr) (fs : List (Str × V)), x = .ref a ∧ y = .ref b ∧ H a = some (.ins C dx fs) ∧
  ((∃ (dy : Addr) (gs : List (Str × V)), H b = some (.ins C dy gs)) ∨ (PySem.W.notFirst K C (.type "tuple") = true ∧ ∃ ys, SqT K H b ys) ∨ (PySem.W.notFirst K C (.type "list") = true ∧ ∃ ys, SqL K H b ys)) ∧ sp [x, y] H (fun z H' => ∃ t, z = .bl t ∧ Q z H') E
theorem op_eqOwnL {X : Cx} {CX : CXT} {C f : Addr} {fd : FuncData} {ps : List Str} {sp : Sp} {E : XK} {n : Nat} (F : FnOk X.prog X.w X.K X.mg X.base CX n f fd ps sp)
    (hs : PySem.W.findIn X.K (.ref C) "__eq__" = some (some (.ref f))) (hf : PySem.W.isFn X.K (.ref f) = true) (hb : Binds X.K fd ps []) (hx : Passes CX X E) (hr : Room n X.A) : OpR X (compareOp .Eq) (rEqOL X.K C sp E) := by
  intro pins s σ H x y v u Q I rx ry q
  obtain ⟨a, b, dx, fs, rfl, rfl, ha, hy, hsp⟩ := q
  cases rx
  cases ry
  obtain ⟨mA, J, _⟩ := ins_get I.hok ha
  obtain ⟨od, J, _⟩ := J.look
  obtain ⟨m, hF⟩ := I.fr
  have go : ∀ tb : Value, PySem.W.Looks (model X.prog X.w) s.heap (typeOf (.ref b)) tb → PySem.W.notFirst X.K C tb = true → wpAny (model X.prog X.w) X.A (richCompare .Eq (.ref a) (.ref b)) (EP X pins σ Q) X.xe s := fun tb ht hn => by
    refine PySem.W.cmp_K (op := .Eq) (tb := tb) hr.units0 hF I.ok.mod.kin J ht hn hs hf ?_
    have hl := F.len _ _ _ _ hsp
    have r2 : Vals [V.ref a, V.ref b] [Value.ref a, Value.ref b] := .cons rfl (.cons rfl .nil)
    refine wpAny_call (codeAny_mono (F.run X.A X.stack s H ⟨[.ref a, .ref b], []⟩ [.ref a, .ref b] [.ref a, .ref b] _ E hr I.env0 (by
      have := hb s [.ref a, .ref b] I.kIn (by simpa using hl)
      simpa using this) r2 hsp) fun r s' hq => ?_)
    cases r with
    | error e => exact hx pins σ H s e s' I hq
    | ok fl =>
      cases fl with
      | ret w =>
        obtain ⟨z, H', I', rz, t, ez, hQ⟩ := I.after hq
        subst ez
        cases rz
        exact ⟨.bl t, H', I', rfl, hQ⟩
      | next => exact False.elim hq
      | brk => exact False.elim hq
      | cont => exact False.elim hq
  rcases hy with ⟨dy, gs, hy⟩ | ⟨hn, ys, hy⟩ | ⟨hn, ys, hy⟩
  · obtain ⟨mB, J', _⟩ := ins_get I.hok hy
    obtain ⟨od', J', _⟩ := J'.look
    exact go (.ref C) J'.type (by simp [PySem.W.notFirst])
  · obtain ⟨its, rv, ⟨o, ho, hc, _⟩, _⟩ := I.tuple hy
    exact go (.type "tuple") (fun A Q E s' k z => wpAny_typeOf (T := "tuple") ⟨o, k _ _ ho, hc⟩ z) hn
  · obtain ⟨its, rv, ⟨o, n, ho, hc, _⟩, _⟩ := I.list hy
    exact go (.type "list") (fun A Q E s' k z => wpAny_typeOf (T := "list") ⟨o, k _ _ ho, hc⟩ z) hn
theorem op_eqCL {X : Cx} {k j : Nat} {x : Str} {sp : Sp} (c : EqC X.prog X.w X.K X.mg X.base k x sp) (hr : Room j X.A) (hk : k ≤ j) : OpR X (compareOp .Eq) (rEqOL X.K (ga X.K x) sp E0) := by
  obtain ⟨f, fd, ps, F, hs, hf, hb⟩ := c.ex
  exact op_eqOwnL F hs hf hb pass0 (hr.mono hk)
/-! ### xs != ys, lists of the same objects -/
def rNeR (K : PySem.W.Frag) : R2 := fun x y H Q => ∃ (a b : Addr) (ps : List Addr), x = .ref a ∧ y = .ref b ∧ SqL K H a (ps.map V.ref) ∧ SqL K H b (ps.map V.ref) ∧ Q (.bl false) H
theorem op_neR {X : Cx} {k : Nat} (hr : Room k X.A) : OpR X (compareOp .NotEq) (rNeR X.K) := by
  intro pins s σ H x y v u Q I rx ry q
  obtain ⟨a, b, ps, rfl, rfl, ha, hb, q⟩ := q
  cases rx
  cases ry
  obtain ⟨its, rv, pl, _⟩ := I.list ha
  obtain ⟨its2, rv2, pl2, _⟩ := I.list hb
  have e1 := refs_of rv
  have e2 := refs_of rv2
  subst e1 e2
  have h := SeqAt.RcNeAt.lists (A := X.A) (s := s) (e := fun _ => true) pl.isList pl2.isList rfl hr.units0 fun j h1 h2 => SeqAt.EqAt.same _
  have e0 : ((List.range (ps.map Value.ref).toArray.size).all fun _ => true) = true := List.all_eq_true.mpr fun _ _ => rfl
  rw [e0] at h
  have h2 : SeqAt.RcNeAt X.A s (.ref a) (.ref b) false := h
  exact h2 X.prog X.w X.xe _ ⟨.bl false, H, I, rfl, q⟩
/-! ### data: ints, bools, texts, tuples of ints -/
theorem plain_ints : ∀ xs : List Int, PyData.plainAll (Di xs) = true
  | [] => by simp [PyData.plainAll]
  | x :: xs => by
    show PyData.plainAll (.int x :: Di xs) = true
    rw [PyData.plainAll, plain_ints xs]
    simp [PyData.plain]
theorem e_eqPV {K : PySem.W.Frag} {x y : V} {H : Hp} {Q : VK} {d e : PyData} (h1 : Dp K H x d) (h2 : Dp K H y e) (p1 : d.plain = true) (p2 : e.plain = true) (hd : d.depth ≤ 60) {b : Bool} (hb : PyData.eqv d e = b) (q : Q (.bl b) H) : rEqP K x y H Q := ⟨d, e, h1, h2, p1, p2, hd, by rw [hb]; exact q⟩
theorem e_nePV {K : PySem.W.Frag} {x y : V} {H : Hp} {Q : VK} {d e : PyData} (h1 : Dp K H x d) (h2 : Dp K H y e) (p1 : d.plain = true) (p2 : e.plain = true) (hd : d.depth ≤ 60) {b : Bool} (hb : PyData.eqv d e = b) (q : Q (.bl (!b)) H) : rNeP K x y H Q := ⟨d, e, h1, h2, p1, p2, hd, by rw [hb]; exact q⟩
theorem dp_ti {K : PySem.W.Frag} {H : Hp} {a : Addr} {xs : List Int} (h : SqT K H a (xs.map V.int)) : Dp K H (.ref a) (.tuple (Di xs)) := .tup h (dpAll_ints xs)
theorem e_eqPT {K : PySem.W.Frag} {H : Hp} {Q : VK} {a b : Addr} {xs ys : List Int} (h1 : SqT K H a (xs.map V.int)) (h2 : SqT K H b (ys.map V.int)) (q : Q (.bl (decide (xs = ys))) H) : rEqP K (.ref a) (.ref b) H Q :=
  e_eqPV (dp_ti h1) (dp_ti h2) (by simp [PyData.plain, plain_ints]) (by simp [PyData.plain, plain_ints]) (by
    show PyData.depthAll (Di xs) + 1 ≤ 60
    rw [depthAll_ints]; decide) (eqvAll_ints xs ys) q
end Vf

namespace Vf
open PySem L2 PySem.Spec PyProof.Rows He
/-! ### a dict comprehension over what is walked -/
def DcB (J : It) (g : TG) (tt : TT) (tk tv : TE) (vs : List Nat) (σ : L2.St) (D : Addr) (H1 : Hp) (Q : VK) : Prop := ∃ W : Nat → Nat → Hp → Prop, (∃ m, W 0 m (upd H1 D (.dK []))) ∧ ∀ i m H, W i m H →
  (J.stop i H ∧ Q (.ref D) H) ∨ (J.go i H ∧
    ∃ Nx : Hp → Prop, (∀ H', Nx H' → ∃ m', m' < m ∧ W (i + 1) m' H') ∧
    ∀ x H', J.yld i H x H' → g x (wipe σ vs) H' fun σ2 H2 => wipe σ2 vs = wipe σ vs ∧ tt σ2 H2 fun b H3 =>
    if b = true then tk σ2 H3 fun y H4 =>
      tv σ2 H4 fun z H5 => ∃ kvs k, y = kV k ∧ H5 D = some (.dK kvs) ∧ kvs.length < sizeLine ∧
      Nx (upd H5 D (.dK (putK kvs k z))) else Nx H3)
theorem e_dc {wi : TI} {g : TG} {tt : TT} {tk tv : TE} {vs : List Nat} {σ : L2.St} {H : Hp} {Q : VK} (q : wi σ H fun J H1 => ∀ D, H1 D = none → DcB J g tt tk tv vs σ D H1 Q) : tDc wi g tt tk tv vs σ H Q := q
theorem dc_it {J : It} {n : Nat} {G : Hp → Prop} {Y : Nat → Hp → V → Hp → Prop} (w : Walk J n G Y) {g : TG} {tt : TT} {tk tv : TE} {vs : List Nat} {σ : L2.St} {H1 : Hp} {D : Addr} {Q : VK} (Pv : Nat → Hp → Prop) (h0 : Pv 0 (upd H1 D (.dK []))) (hG : ∀ i H, i ≤ n → Pv i H → G H)
    (hs : ∀ i x H H', i < n → Pv i H → Y i H x H' → g x (wipe σ vs) H' fun σ2 H2 => wipe σ2 vs = wipe σ vs ∧ tt σ2 H2 fun b H3 =>
      if b = true then tk σ2 H3 fun y H4 => tv σ2 H4 fun z H5 => ∃ kvs k, y = kV k ∧ H5 D = some (.dK kvs) ∧ kvs.length < sizeLine ∧ Pv (i + 1) (upd H5 D (.dK (putK kvs k z))) else Pv (i + 1) H3)
    (hd : ∀ H, Pv n H → Q (.ref D) H) : DcB J g tt tk tv vs σ D H1 Q := by
  refine ⟨fun i m H => m = n - i ∧ i ≤ n ∧ Pv i H, ⟨n, by simp, Nat.zero_le _, h0⟩, ?_⟩
  rintro i m H ⟨rfl, hi, p⟩
  by_cases lt : i < n
  · exact .inr ⟨w.goes i H lt (hG i H hi p), Pv (i + 1), fun H' p' => ⟨n - (i + 1), by omega, rfl, lt, p'⟩, fun x H' y => hs i x H H' lt p (w.yields i H x H' lt (hG i H hi p) y)⟩
  · have e : i = n := by omega
    subst e
    exact .inl ⟨w.stops H (hG i H hi p), hd H p⟩
theorem tupOK (K : PySem.W.Frag) {X : Cx} (hK : X.K = K := by rfl) : CallR X (.type "tuple") (fun xs H Q => ∃ p ys, xs = [.ref p] ∧ ((SqL K H p ys ∧ ∀ l, H l = none → Q (.ref l) (upd H l (.tup ys))) ∨ (SqT K H p ys ∧ Q (.ref p) H))) := hK ▸ call_tuple_of
/-! ### dicts that differ in nothing -/
def rNeDD (K : PySem.W.Frag) : R2 := fun x y H Q => ∃ a b ks ls, x = .ref a ∧ y = .ref b ∧ H a = some (.dK ks) ∧ H b = some (.dK ls) ∧ ks.length = ls.length ∧
  (∀ p ∈ ks, ∃ u d, valV ls p.1 = some u ∧ Dp K H p.2 d ∧ Dp K H u d ∧ PySem.W.alike d d = true ∧ d.depth ≤ 60 ∧ PyData.eqv d d = true) ∧ Q (.bl false) H
theorem hits_data {X : Cx} {pins : List (Addr × Obj)} {σ : L2.St} {H : Hp} {s : Shared} (I : Inv X pins σ H s) {A : Around} (hu : A.units + 60 < cLine) {ls : List (L2.Key × V)} {vb : List (L2.Key × Value)} (rb : KV ls vb) {ks : List (L2.Key × V)} {va : List (L2.Key × Value)} (ra : KV ks va) :
    (∀ p ∈ ks, ∃ u d, valV ls p.1 = some u ∧ Dp X.K H p.2 d ∧ Dp X.K H u d ∧ PySem.W.alike d d = true ∧ d.depth ≤ 60 ∧ PyData.eqv d d = true) → PySem.W.KeqHits A s vb va true := by
  unfold KV at ra
  induction ra with
  | nil => intro _; exact .nil
  | @cons p q ps qs h t ih =>
    intro hp
    obtain ⟨h1, h2⟩ := h
    obtain ⟨u, d, e, d1, d2, al, dp, ev⟩ := hp p (List.mem_cons_self ..)
    have rr : RelO (some u) (valueAt vb p.1) := by rw [← e]; exact rb.val p.1
    obtain ⟨y, hy, ry⟩ := rr.some_of
    obtain ⟨key, v⟩ := q
    have h1' : p.1 = key := h1
    rw [h1'] at hy
    obtain ⟨as1, r1⟩ := Dp.reads I d p.2 v d1 h2
    obtain ⟨as2, r2⟩ := Dp.reads I d u y d2 ry
    have eq := PySem.W.eqAt_alike d d A s v y as1 as2 r1 r2 al (by have := Nat.min_le_left d.depth d.depth; omega)
    rw [ev] at eq
    have z := PySem.W.KeqHits.hit hy eq (ih fun p' hm => hp p' (List.mem_cons_of_mem _ hm))
    exact z
theorem op_neDD {X : Cx} (hu : X.A.units + 64 < cLine) : OpR X (compareOp .NotEq) (rNeDD X.K) := by
  intro pins s σ H x y v u Q I rx ry h
  obtain ⟨a, b, ks, ls, rfl, rfl, ea, eb, hlen, hp, q⟩ := h
  obtain rfl : v = Value.ref a := rx
  obtain rfl : u = Value.ref b := ry
  obtain ⟨_, ya, va, ra, da⟩ := (show ObjOk X.prog X.w H s.heap a (.dK ks) from I.hok a _ ea)
  obtain ⟨_, yb, vb, rb, db⟩ := (show ObjOk X.prog X.w H s.heap b (.dK ls) from I.hok b _ eb)
  have hl : va.length = vb.length := by rw [← ra.length, ← rb.length]; exact hlen
  refine PySem.W.keq_ne (knd := mixKind X.prog X.w) (r := true) ya yb da db (by omega) (fun _ => hits_data I (by show X.A.units + 1 + 60 < cLine; omega) rb ra hp) ?_
  rw [show (va.length == vb.length && true) = true from by rw [hl]; simp]
  exact ⟨.bl false, H, I, rfl, q⟩
end Vf

/-! set(xs), xs a list of ints: as HandS.SetFor has it for a tuple; sorted of it by cr_sortedSet. -/
namespace Vf
open PySem L2 PySem.Spec PyProof.Rows He
section
variable {P : Program} {w : World} {A : Around} {E : Value → Shared → Prop} {s : Shared}
/-- the new set as it is made -/
abbrev emptyS (w : World) : Obj := { cls := .type "set", dict := none, data := .set #[] 0 (.fresh 0 0 (!w.params.followText "set-order")) }
theorem set_of_ints {l : Addr} {its : Array Value} (ns : List Int) {Q : Value → Shared → Prop}
    (h0 : A.handled = none) (isl : s.heap.IsList l its) (hin : IntsAre its.toList ns)
    (small : ns.length + 1 < scanBound)
    (q : ∀ (g : Heap) (tk n : Nat), SetR w g s.heap.objs.size (fun j => decide (j ∈ ns)) n → n ≤ ns.length →
      (∀ b o, s.heap.get? b = some o → g.get? b = some o) →
      Q (.ref s.heap.objs.size) { s with heap := g, toks := tk }) :
    wpAny (model P w) A (call (.type "set") [.ref l]) Q E s := by
  have size : its.size = ns.length := by
    rw [← IntsAre.length hin]; exact Array.length_toList.symm
  obtain ⟨_, _, mro⟩ := F.called_set.mro
  have made := F.called_set.made; have sub := F.called_set.sub
  have e1 := F.called_set.notType; have e2 := F.called_set.canCreate
  have e3 := F.typeCall_set_1 (.ref l)
  refine wpAny_call (codeAny_of_tree ?_)
  show wpAny _ _ (callAny (.type "set") _) _ _ _
  refine wpAny_pure ⟨Code.quiet_builtin _ (by decide +kernel),
    codeAny_builtin F.entry_type_call ?_⟩
  rw [Around.under_plain (weight_type_call_type "set" [.ref l] []) rfl]
  repeat (any_goals (first | assumption | wp_step))

  refine codeAny_mono (code_set_led1 (.ref l) (E := E)
    (Q₁ := fun r t => r = .ref s.heap.objs.size ∧ t = { s with heap := s.heap.push (emptyS w) })
    ⟨rfl, rfl⟩) fun r t hr => ?_
  rcases r with e | fl
  · exact hr
  cases fl with
  | ret obj =>
    obtain ⟨rfl, rfl⟩ := hr
    have at1 : (s.heap.push (emptyS w)).get? s.heap.objs.size = some (emptyS w) := Heap.get?_push_size _ rfl
    have ty1 : Shared.TypeIs { s with heap := s.heap.push (emptyS w) } (.ref s.heap.objs.size) "set" := ⟨_, at1, rfl⟩
    have look := F.called_set.init.lookup
    have bind := F.called_set.init.bind (.ref s.heap.objs.size)
    repeat (any_goals (first | assumption | wp_step))

    refine codeAny_mono (codeAny_call_builtin
      (R := wants (fun r t => r = .none ∧ ∃ g tk n, t = { s with heap := g, toks := tk } ∧
        SetR w g s.heap.objs.size (fun j => decide (j ∈ ns)) n ∧ n ≤ ns.length ∧
        (∀ b o, s.heap.get? b = some o → g.get? b = some o)) E)
      F.called_set.init.plain F.entry_set_init (check_set_init_1 ty1 ?_)) fun r2 t2 hr2 => ?_
    · have isl1 : (s.heap.push (emptyS w)).IsList l its := isl.push _
      have d1 := F.sub_list_set
      have d2 := F.sub_list_frozenset
      have nd : (Value.type "list" == Value.type "dict") = false := by decide
      obtain ⟨ol, hol, hcl, nl, hdl⟩ := id isl
      obtain ⟨oc, od, odt, osl⟩ := ol
      simp only at hcl hdl
      subst hcl; subst hdl
      have hol1 := Heap.get?_push_of_some (emptyS w) hol
      unfold Builtin.«set.__init__» noKeywords Builtin.Frozenset.updateFrom
      generalize hPI : pyIter = PI
      wp_walk
      subst hPI

      refine wpAny_pyIter_list isl1 ?_
      refine wpAny_bind (wpAny_runValue ?_)
      have lt : l < s.heap.objs.size := Heap.lt_size hol
      have h3 : A.in1.in1.in1.handled = none := by simp [h0]
      have sz : (s.heap.push (emptyS w)).objs.size = s.heap.objs.size + 1 := Heap.size_push ..
      have n1 : l ≠ (s.heap.push (emptyS w)).objs.size := by rw [sz]; exact Nat.ne_of_lt (Nat.lt_succ_of_lt lt)
      have n2 : s.heap.objs.size ∉ [(s.heap.push (emptyS w)).objs.size, l] := by
        rw [sz]
        intro m
        rcases List.mem_cons.mp m with z | z
        · exact Nat.succ_ne_self _ z.symm
        · exact Nat.ne_of_gt lt (List.mem_singleton.mp z)
      have val : ∀ (i : Nat) (v : Value), its[i]? = some v → ∃ k t, ns[i]? = some k ∧ v = .int k t := fun i v hv => by
        have hi : i < ns.length := by rw [← size]; exact (Array.getElem?_eq_some_iff.mp hv).1
        obtain ⟨t, e⟩ := IntsAre.int_at hin i v (by rw [Array.getElem?_toList]; exact hv)
        rw [List.getD_eq_getElem?_getD, List.getElem?_eq_getElem hi] at e
        exact ⟨ns[i], t, List.getElem?_eq_getElem hi, e⟩
      refine set_update_ints ((Walks.list h3 _ l n1 its).toS) s.heap.objs.size n2 ns size small val
        (its.size - 0) 0 _ (by omega) (Nat.zero_le _)
        ⟨⟨_, Heap.get?_push_size _ rfl, rfl, rfl⟩, isl1.push _⟩
        ⟨0, Nat.le_refl 0, setR_new_at (Heap.get?_push_of_some _ at1)⟩ fun t' n mv le R => ?_
      obtain ⟨g, g2, dr, tk, os⟩ := t'
      have eg : g2 = s.gens := mv.gens
      have ed : dr = s.drawn := mv.drawn
      have eo : os = s.os := mv.os
      subst eg ed eo
      rw [size] at le
      show wpAny _ _ _ _ _ _
      refine wpAny_pure ?_
      show wpAny _ _ (ret Value.none) _ _ _
      refine wpAny_pure ⟨rfl, g, tk, n, rfl, R, le, fun b o e => ?_⟩
      have lb : b < s.heap.objs.size := Heap.lt_size e
      refine mv.heap b o (fun m => ?_) (Heap.get?_push_of_some _ (Heap.get?_push_of_some _ e))
      rcases List.mem_cons.mp m with z | z
      · exact Nat.ne_of_lt lb z
      · have := List.mem_singleton.mp z
        rw [sz] at this
        exact Nat.ne_of_lt (Nat.lt_succ_of_lt lb) this
    · rcases r2 with e | fl2
      · exact hr2
      cases fl2 with
      | ret r =>
        obtain ⟨rfl, g, tk, n, rfl, h1, h2, h3⟩ := hr2
        repeat (any_goals (first | assumption | wp_step))
        exact q _ _ _ h1 h2 h3
      | _ => exact hr2.elim
  | _ => exact hr.elim
end
/-- set(xs), xs a list of ints -/
def rSetL (K : PySem.W.Frag) (w : World) : List V → Hp → VK → Prop := fun xs H Q => ∃ (p : Addr) (ns : List Int), xs = [.ref p] ∧ SqL K H p (ns.map V.int) ∧ ns.length ≤ 1000 ∧
  ∀ a n, H a = none → n ≤ ns.length → Q (.ref a) (upd H a (SetO w a (fun j => decide (j ∈ ns)) n))
theorem cr_setL {X : Cx} (hc : X.calm = true) : CallR X (.type "set") (rSetL X.K X.w) := by
  intro pins s σ H xs us Q I r h
  obtain ⟨p, ns, rfl, hq, hl, q⟩ := h
  obtain ⟨u, rfl, rx⟩ := vals1 r
  cases rx
  obtain ⟨its, rv, pl, hz⟩ := I.list hq
  refine set_of_ints ns (I.ok.hd hc) pl.isList (by simpa using ints_of_vals rv) (by unfold scanBound; omega) fun g tk n R le k => ?_
  exact ⟨.ref s.heap.objs.size, _, I.laid (t' := tk) k (Nat.le_refl _) (setO_new R), rfl, q _ n (I.hok.fresh (Nat.le_refl _)) le⟩
end Vf
namespace Vf
open PySem L2 PySem.Spec PyProof.Rows He
theorem niDK (K : PySem.W.Frag) {X : Cx} (hu : X.A.units + 65 < cLine) (hK : X.K = K := by rfl) : OpR X (compareOp .NotIn) (rNotInD K) := hK ▸ op_notInD hu
/-! ### [e for x in xs for y in f(x)] -/
/-- the inner clause's turns, Nx where it ends -/
def Inn (J1 : It) (g1 : TG) (tt1 : TT) (te : TE) (vs1 : List Nat) (σ2 : L2.St) (D : Addr) (H4 : Hp) (Nx : Hp → Prop) : Prop :=
  ∃ W1 : Nat → Nat → Hp → Prop, (∃ m, W1 0 m H4) ∧ ∀ j k H, W1 j k H → (J1.stop j H ∧ Nx H) ∨ (J1.go j H ∧
    ∃ Nx1 : Hp → Prop, (∀ H', Nx1 H' → ∃ k', k' < k ∧ W1 (j + 1) k' H') ∧
    ∀ x H', J1.yld j H x H' → g1 x (wipe σ2 vs1) H' fun σ3 H5 => wipe σ3 vs1 = wipe σ2 vs1 ∧ tt1 σ3 H5 fun b H6 =>
      if b = true then te σ3 H6 fun y H7 => ∃ acc, H7 D = some (.lst acc) ∧ acc.length < sizeLine ∧ Nx1 (upd H7 D (.lst (acc ++ [y])))
      else Nx1 H6)
def Lc2B (J : It) (g : TG) (tt : TT) (wi1 : TI) (g1 : TG) (tt1 : TT) (te : TE) (vs vs1 : List Nat) (σ : L2.St) (D : Addr) (H1 : Hp) (Q : VK) : Prop :=
  ∃ W : Nat → Nat → Hp → Prop, (∃ m, W 0 m (upd H1 D (.lst []))) ∧ ∀ i m H, W i m H → (J.stop i H ∧ Q (.ref D) H) ∨ (J.go i H ∧
    ∃ Nx : Hp → Prop, (∀ H', Nx H' → ∃ m', m' < m ∧ W (i + 1) m' H') ∧
    ∀ x H', J.yld i H x H' → g x (wipe σ vs) H' fun σ2 H2 => wipe σ2 vs = wipe σ vs ∧ tt σ2 H2 fun b H3 =>
      if b = true then wi1 σ2 H3 fun J1 H4 => Inn J1 g1 tt1 te vs1 σ2 D H4 Nx else Nx H3)
theorem e_lc2 {wi wi1 : TI} {g g1 : TG} {tt tt1 : TT} {te : TE} {vs vs1 : List Nat} {σ : L2.St} {H : Hp} {Q : VK}
    (q : wi σ H fun J H1 => ∀ D, H1 D = none → Lc2B J g tt wi1 g1 tt1 te vs vs1 σ D H1 Q) : tLc2 wi g tt wi1 g1 tt1 te vs vs1 σ H Q := q
theorem inn_it {J : It} {n : Nat} {G : Hp → Prop} {Y : Nat → Hp → V → Hp → Prop} (w : Walk J n G Y) {g : TG} {tt : TT} {te : TE} {vs : List Nat} {σ : L2.St} {D : Addr} {H1 : Hp} {Nx : Hp → Prop}
    (Pv : Nat → Hp → Prop) (h0 : Pv 0 H1) (hG : ∀ i H, i ≤ n → Pv i H → G H)
    (hs : ∀ i x H H', i < n → Pv i H → Y i H x H' → g x (wipe σ vs) H' fun σ2 H2 => wipe σ2 vs = wipe σ vs ∧ tt σ2 H2 fun b H3 =>
      if b = true then te σ2 H3 fun y H4 => ∃ acc, H4 D = some (.lst acc) ∧ acc.length < sizeLine ∧ Pv (i + 1) (upd H4 D (.lst (acc ++ [y]))) else Pv (i + 1) H3)
    (hd : ∀ H, Pv n H → Nx H) : Inn J g tt te vs σ D H1 Nx := by
  refine ⟨fun i m H => m = n - i ∧ i ≤ n ∧ Pv i H, ⟨n, by simp, Nat.zero_le _, h0⟩, ?_⟩
  rintro i m H ⟨rfl, hi, p⟩
  by_cases lt : i < n
  · exact .inr ⟨w.goes i H lt (hG i H hi p), Pv (i + 1), fun H' p' => ⟨n - (i + 1), by omega, rfl, lt, p'⟩, fun x H' y => hs i x H H' lt p (w.yields i H x H' lt (hG i H hi p) y)⟩
  · have e : i = n := by omega
    subst e
    exact .inl ⟨w.stops H (hG i H hi p), hd H p⟩
theorem lc2_it {J : It} {n : Nat} {G : Hp → Prop} {Y : Nat → Hp → V → Hp → Prop} (w : Walk J n G Y) {g g1 : TG} {tt tt1 : TT} {te : TE} {wi1 : TI} {vs vs1 : List Nat} {σ : L2.St} {D : Addr} {H1 : Hp} {Q : VK}
    (Pv : Nat → Hp → Prop) (h0 : Pv 0 (upd H1 D (.lst []))) (hG : ∀ i H, i ≤ n → Pv i H → G H)
    (hs : ∀ i x H H', i < n → Pv i H → Y i H x H' → g x (wipe σ vs) H' fun σ2 H2 => wipe σ2 vs = wipe σ vs ∧ tt σ2 H2 fun b H3 =>
      if b = true then wi1 σ2 H3 fun J1 H4 => Inn J1 g1 tt1 te vs1 σ2 D H4 (Pv (i + 1)) else Pv (i + 1) H3)
    (hd : ∀ H, Pv n H → Q (.ref D) H) : Lc2B J g tt wi1 g1 tt1 te vs vs1 σ D H1 Q := by
  refine ⟨fun i m H => m = n - i ∧ i ≤ n ∧ Pv i H, ⟨n, by simp, Nat.zero_le _, h0⟩, ?_⟩
  rintro i m H ⟨rfl, hi, p⟩
  by_cases lt : i < n
  · exact .inr ⟨w.goes i H lt (hG i H hi p), Pv (i + 1), fun H' p' => ⟨n - (i + 1), by omega, rfl, lt, p'⟩, fun x H' y => hs i x H H' lt p (w.yields i H x H' lt (hG i H hi p) y)⟩
  · have e : i = n := by omega
    subst e
    exact .inl ⟨w.stops H (hG i H hi p), hd H p⟩
end Vf

/-! set(xs), xs a list of texts, and sorted of it; xs.remove(x) where the items are data. -/
namespace Vf
open PySem L2 PySem.Spec PyProof.Rows He
abbrev tk_ (P : Program) (w : World) := PySem.strKind P w
def txOf (e : Int × Value) : Str := match e.2 with | .str x _ => x | _ => Str.empty
def TxE (w : World) (e : Int × Value) : Prop := ∃ x u, e.2 = Value.str x u ∧ e.1 = hashStr w x
/-- the set at a has the texts L -/
def TxS (w : World) (h : Heap) (a : Addr) (L : List Str) : Prop :=
  ∃ ob arr ep tb, h.get? a = some ob ∧ ob.ExactSet ∧ ob.data = .set arr ep tb ∧ (∀ e ∈ arr.toList, TxE w e)
    ∧ (arr.toList.map txOf).Perm L ∧ L.Nodup ∧ L.length < scanBound ∧ tb.fits arr.size = true
    ∧ Ris tb.place.toList ∧ (w.params.followText "set-order" = true ∨ tb.led = true)
theorem TxS.to {w : World} {h g : Heap} {a : Addr} {L : List Str} (t : TxS w h a L) (k : ∀ o, h.get? a = some o → g.get? a = some o) : TxS w g a L := by
  obtain ⟨ob, arr, ep, tb, h1, r⟩ := t
  exact ⟨ob, arr, ep, tb, k _ h1, r⟩
section
variable {P : Program} {w : World} {A : Around} {E : Value → Shared → Prop} {s : Shared}
theorem tx_kinds {l : List (Int × Value)} (g : ∀ e ∈ l, TxE w e) : ElemsOf (tk_ P w) l := fun e m => by
  obtain ⟨x, u, e1, e2⟩ := g e m
  exact ⟨⟨x, by rw [e1]; exact PySem.strKind_is P w x u, e2⟩, by rw [e1]; rfl⟩
theorem tx_is {e : Int × Value} (g : TxE w e) (x : Str) : (tk_ P w).is x e.2 = true ↔ txOf e = x := by
  obtain ⟨y, u, e1, _⟩ := g
  have h1 : txOf e = y := by unfold txOf; rw [e1]
  rw [h1, e1]
  constructor
  · intro q
    exact (tk_ P w).inj _ _ _ (PySem.strKind_is P w y u) q
  · rintro rfl
    exact PySem.strKind_is P w y u
theorem tx_size {arr : Array (Int × Value)} {L : List Str} (p : (arr.toList.map txOf).Perm L) : arr.size = L.length := by
  have := p.length_eq
  rw [List.length_map] at this
  rw [← this]
  exact Array.length_toList.symm
/-- where the new one is stored -/
theorem tx_store {gv : Bool → Sem Unit} (hgv : ∀ (b : Bool) (s1 : Shared) (R : Unit → Shared → Prop), R () s1 → wpAny (model P w) A (gv b) R E s1)
    {a : Addr} {ob : Obj} {arr : Array (Int × Value)} {ep : Nat} {tb : SetTable}
    (e0 : s.heap.get? a = some ob) (ex : ob.ExactSet) (ed : ob.data = .set arr ep tb)
    {arr1 : Array (Int × Value)} {tb1 : SetTable} {L : List Str}
    (g1 : ∀ e ∈ arr1.toList, TxE w e) (p1 : (arr1.toList.map txOf).Perm L) (n1 : L.Nodup) (b1 : L.length < scanBound)
    (f1 : tb1.fits arr1.size = true) (r1 : Ris tb1.place.toList) (l1 : w.params.followText "set-order" = true ∨ tb1.led = true)
    {dm : Bool} {R : Option Bool → Shared → Prop}
    (q : ∀ g, Heap.SameBut a s.heap g → TxS w g a L → R (some true) { s with heap := g }) :
    wpAny (model P w) A (do
      storeSet a arr1 tb1
      if (!dm && tb1.tooFull) = true then do
        gv (relayAll tb1 arr1 (SetTable.grown arr1.size)).2.2
        storeSet a (relayAll tb1 arr1 (SetTable.grown arr1.size)).1 (relayAll tb1 arr1 (SetTable.grown arr1.size)).2.1
        pure (some true)
      else pure (some true)) R E s := by
  have bs : arr1.size < scanBound := by rw [tx_size p1]; exact b1
  refine wpAny_bind (wpAny_storeSet_of e0 ed ?_ (fits_of_scanBound bs))
  have e1 := store_at (es' := arr1) (t' := tb1) e0 ed
  have sb := Heap.SameBut.update s.heap a (Obj.putSet arr1 tb1)
  by_cases c : (!dm && tb1.tooFull) = true
  · rw [if_pos c]
    have pm := relayAll_perm tb1 arr1 (SetTable.grown arr1.size)
    have pf := relayAll_fits tb1 arr1 (SetTable.grown arr1.size)
    have pr := relayAll_ris tb1 arr1 (SetTable.grown arr1.size)
    have pl := relayAll_led tb1 arr1 (SetTable.grown arr1.size)
    revert pm pf pr pl
    generalize relayAll tb1 arr1 (SetTable.grown arr1.size) = rel
    obtain ⟨arr2, tb2, gave⟩ := rel
    intro pm pf pr pl
    dsimp only at pm pf pr pl ⊢
    have p2 : (arr2.toList.map txOf).Perm L := (pm.map txOf).trans p1
    have bs2 : arr2.size < scanBound := by rw [tx_size p2]; exact b1
    refine wpAny_bind (hgv _ _ _ ?_)
    refine wpAny_bind (wpAny_storeSet_of e1 rfl ?_ (fits_of_scanBound bs2))
    have e2 := store_at (es' := arr2) (t' := tb2) e1 rfl
    refine wpAny_pure (q _ (sb.trans (Heap.SameBut.update _ a _)) ?_)
    refine ⟨_, arr2, _, tb2, e2, ex, rfl, fun e m => g1 e (pm.mem_iff.mp m), p2, n1, b1, pf, pr, ?_⟩
    exact l1.imp id fun z => pl.trans z
  · rw [if_neg c]
    exact wpAny_pure (q _ sb ⟨_, arr1, _, tb1, e1, ex, rfl, g1, p1, n1, b1, f1, r1, l1⟩)
/-- one text more -/
theorem tx_add {a : Addr} {L : List Str} {x : Str} {u : Tok} {Q : Bool → Shared → Prop} (t : TxS w s.heap a L) (room : L.length + 1 < scanBound)
    (q1 : x ∈ L → Q false s) (q2 : x ∉ L → ∀ g, Heap.SameBut a s.heap g → TxS w g a (x :: L) → Q true { s with heap := g }) :
    wpAny (model P w) A (setAddHashed a (.str x u) ((tk_ P w).hash x)) Q E s := by
  obtain ⟨ob, arr, ep, tb, e0, ex, ed, g, p, n, b, f, r, l⟩ := t
  have hx : (tk_ P w).is x (.str x u) = true := PySem.strKind_is P w x u
  have hs : (Value.str x u).scannable = true := rfl
  have bs : arr.size < scanBound := by rw [tx_size p]; exact b
  have el : ElemsOf (tk_ P w) arr.toList := tx_kinds g
  have mem : x ∈ L ↔ ∃ e ∈ arr.toList, (tk_ P w).is x e.2 = true := by
    rw [← p.mem_iff, List.mem_map]
    exact ⟨fun ⟨e, m, h⟩ => ⟨e, m, (tx_is (g e m) x).2 h⟩, fun ⟨e, m, h⟩ => ⟨e, m, (tx_is (g e m) x).1 h⟩⟩
  unfold setAddHashed setAddHashedIn
  refine wpAny_holding (wpAny_bind (wpAny_setState_of e0 ed f ?_))
  dsimp only
  rw [byScan_of hs bs el]
  simp only [↓reduceIte]
  unfold setAddByScan
  refine wpAny_bind ?_
  refine wpAny_bind (wpAny_rule ?_)
  refine wpAny_bind (wpAny_setScan_of hx e0 ed f el ?_)
  cases fi : List.findIdx? (fun e => (tk_ P w).is x e.2) arr.toList with
  | some j =>
    dsimp only
    obtain ⟨hj, pj, _⟩ := List.findIdx?_eq_some_iff_getElem.mp fi
    exact wpAny_pure (wpAny_pure (q1 (mem.2 ⟨_, List.getElem_mem hj, pj⟩)))
  | none =>
    dsimp only
    have nx : x ∉ L := fun m => by
      obtain ⟨e, m2, h⟩ := mem.1 m
      have z := List.findIdx?_eq_none_iff.mp fi e m2
      rw [h] at z
      cases z
    have gw : ∀ (c : Bool) {s1 : Shared} {R : Unit → Shared → Prop}, R () s1 → wpAny (model P w) A (match c with | true => rule "set.scan.the-table-gave-way" | false => pure ()) R E s1 := fun c s1 R h => by
      cases c
      · exact wpAny_pure h
      · exact wpAny_rule h
    have pm := layNew_perm tb arr ((tk_ P w).hash x) (.str x u)
    have pf := layNew_fits tb arr ((tk_ P w).hash x) (.str x u)
    have pr := layNew_ris tb arr ((tk_ P w).hash x) (.str x u) r
    have pl := layNew_led tb arr ((tk_ P w).hash x) (.str x u)
    revert pm pf pr pl
    generalize layNew tb arr ((tk_ P w).hash x) (.str x u) = new
    obtain ⟨arr1, tb1, dm, gave⟩ := new
    intro pm pf pr pl
    dsimp only at pm pf pr pl ⊢
    rw [Array.toList_push] at pm
    have pc : arr1.toList.Perm (((tk_ P w).hash x, Value.str x u) :: arr.toList) := pm.trans (List.perm_append_singleton _ _)
    have p1 : (arr1.toList.map txOf).Perm (x :: L) := (pc.map txOf).trans (p.cons x)
    have g1 : ∀ e ∈ arr1.toList, TxE w e := fun e m => by
      rcases List.mem_cons.mp (pc.mem_iff.mp m) with z | z
      · exact ⟨x, u, by rw [z], by rw [z]; rfl⟩
      · exact g e z
    have n1 : (x :: L).Nodup := List.nodup_cons.mpr ⟨nx, n⟩
    have b1 : (x :: L).length < scanBound := room
    have l1 : w.params.followText "set-order" = true ∨ tb1.led = true := l.imp id fun z => pl.trans z
    have fin := fun g' sb r' => q2 nx g' sb r'
    refine wpAny_bind (gw _ ?_)
    split
    · refine wpAny_bind ?_
      rw [hashByValue_scannable 8 hs]
      refine wpAny_pure ?_
      refine tx_store ?_ e0 ex ed g1 p1 n1 b1 ?_ ?_ ?_ ?_
      · intro c s1 R h; exact gw c h
      · first | (split <;> first | exact pf | exact SetTable.fits_plain_off pf) | exact pf
      · first | (split <;> exact pr) | exact pr
      · first | (split <;> exact l1) | exact l1
      · intro g' sb r'; dsimp only; exact wpAny_pure (fin g' sb r')
    · refine wpAny_bind (wpAny_pure ?_)
      simp only [↓reduceIte]
      refine tx_store ?_ e0 ex ed g1 p1 n1 b1 pf pr l1 ?_
      · intro c s1 R h; exact gw c h
      · intro g' sb r'; dsimp only; exact wpAny_pure (fin g' sb r')
/-- the set takes all of a list -/
theorem tx_loop {I : Addr} {fp wr : List Addr} {G : Array GenState → Array GenState → Prop} {n : Nat} {Pv : Nat → Value → Prop} {St : Nat → Shared → Prop} {R : Result → Shared → Prop}
    (W : WalksS P w A.in1 I fp wr G n Pv St) (a : Addr) (na : a ∉ fp) (xs : List Str) (hn : n = xs.length) (room : xs.length + 1 < scanBound)
    (pv : ∀ i v, Pv i v → ∃ x u, xs[i]? = some x ∧ v = .str x u) :
    ∀ (k i : Nat) (s : Shared), n = i + k → St i s →
      (∃ L, L.length ≤ i ∧ (∀ x, x ∈ L ↔ x ∈ xs.take i) ∧ TxS w s.heap a L) →
      (∀ s' L, Moved (a :: wr) G s s' → L.length ≤ n → (∀ x, x ∈ L ↔ x ∈ xs) → TxS w s'.heap a L → R (.ok (.ret .none)) s') →
      codeAny (model P w) A (.builtin "set.update.loop" ⟨[.ref a, .ref I], []⟩) R s := by
  have nw : a ∉ wr := fun z => na (W.sub _ z)
  have sub : ∀ b ∈ wr, b ∈ a :: wr := fun b m => List.mem_cons_of_mem _ m
  intro k
  induction k with
  | zero =>
    rintro i s hk st ⟨L, l1, l2, t⟩ q
    have e : n = i := by omega
    subst e
    refine codeAny_builtin F.entry_set_update_loop ?_
    rw [Around.under_plainId F.plain_set_update_loop _]
    show wpAny _ A.in1 (pyNext (.ref I) >>= _) _ _ s
    refine wpAny_bind (W.done s _ _ st fun s' m => ?_)
    show wpAny _ A.in1 (ret Value.none) _ _ s'
    refine wpAny_pure (q s' L (m.mono sub) l1 (fun x => ?_) (t.to fun o h => m.heap a o nw h))
    rw [l2, List.take_of_length_le (by omega)]
  | succ k ih =>
    rintro i s hk st ⟨L, l1, l2, t⟩ q
    have lt : i < n := by omega
    refine codeAny_builtin F.entry_set_update_loop ?_
    rw [Around.under_plainId F.plain_set_update_loop _]
    show wpAny _ A.in1 (pyNext (.ref I) >>= _) _ _ s
    refine wpAny_bind (W.item i s _ _ lt st fun v s' hp st' m => ?_)
    obtain ⟨x, u, hx, rfl⟩ := pv i v hp
    have t' := t.to (g := s'.heap) fun o h => m.heap a o nw h
    have l3 : ∀ z, z ∈ xs.take (i + 1) ↔ z ∈ xs.take i ∨ z = x := fun z => by
      rw [List.take_add_one, hx, List.mem_append]
      exact or_congr Iff.rfl (by simp)
    have next : ∀ (g : Heap) (M : List Str), (∀ b o, b ≠ a → s'.heap.get? b = some o → g.get? b = some o) → M.length ≤ i + 1 → (∀ z, z ∈ M ↔ z ∈ xs.take (i + 1)) → TxS w g a M →
        codeAny (model P w) A (.builtin "set.update.loop" ⟨[.ref a, .ref I], []⟩) R { s' with heap := g, toks := s'.toks + 1 } := fun g M k1 lm lz tm => by
      refine ih (i + 1) _ (by omega) (W.frame _ s' _ _ st' (Nat.le_succ _) fun b mb o e => ?_) ⟨M, lm, lz, tm⟩ fun s2 L2 m2 c1 c2 c3 => ?_
      · exact k1 b o (fun z => na (z ▸ mb)) e
      · refine q s2 L2 (Moved.trans W.gtrans ((m.mono sub).then_heap (Nat.le_succ _) fun b o nb e => ?_) m2) c1 c2 c3
        exact k1 b o (fun z => nb (by rw [z]; exact List.mem_cons_self)) e
    show wpAny _ A.in1 (holding [Value.str x u] (setAdd a (.str x u)) >>= _) _ _ s'
    refine wpAny_bind (wpAny_holding ?_)
    unfold setAdd
    refine wpAny_holding ?_
    refine wpAny_bind ((tk_ P w).pyHash (k := x) (PySem.strKind_is P w x u) ?_)
    refine tx_add (s := { s' with toks := s'.toks + 1 }) t' (by omega) (fun mx => ?_) fun nx g sb tn => ?_
    · refine wpAny_pure ⟨plainId_quiet F.plain_set_update_loop _, next s'.heap L (fun b o _ e => e) (by omega) (fun z => ?_) t'⟩
      rw [l3, ← l2 z]
      exact ⟨.inl, fun h => h.elim id fun e => e ▸ mx⟩
    · refine wpAny_pure ⟨plainId_quiet F.plain_set_update_loop _, next g (x :: L) (fun b o nb e => by rw [sb.2 b nb]; exact e) (by rw [List.length_cons]; omega) (fun z => ?_) tn⟩
      rw [l3, ← l2 z, List.mem_cons]
      exact Or.comm
theorem strs_get : ∀ {us : List Value} {xs : List Str}, StrsAre us xs → ∀ (i : Nat) (v : Value), us[i]? = some v → ∃ x u, xs[i]? = some x ∧ v = .str x u
  | _, _, .nil, i, v, h => by simp at h
  | _, _, .cons n t r, 0, v, h => ⟨n, t, rfl, by simpa using h.symm⟩
  | _, _, .cons n t r, i + 1, v, h => strs_get r i v (by simpa using h)
/-- set(xs) -/
theorem tx_of {l : Addr} {its : Array Value} (xs : List Str) {Q : Value → Shared → Prop}
    (h0 : A.handled = none) (isl : s.heap.IsList l its) (hin : StrsAre its.toList xs) (small : xs.length + 1 < scanBound)
    (q : ∀ (g : Heap) (tk : Nat) (L : List Str), TxS w g s.heap.objs.size L → L.length ≤ xs.length → (∀ x, x ∈ L ↔ x ∈ xs) →
      (∀ b o, s.heap.get? b = some o → g.get? b = some o) → Q (.ref s.heap.objs.size) { s with heap := g, toks := tk }) :
    wpAny (model P w) A (call (.type "set") [.ref l]) Q E s := by
  have size : its.size = xs.length := by rw [← StrsAre.len_eq hin]; exact Array.length_toList.symm
  obtain ⟨_, _, mro⟩ := F.called_set.mro
  have made := F.called_set.made; have sub := F.called_set.sub
  have e1 := F.called_set.notType; have e2 := F.called_set.canCreate
  have e3 := F.typeCall_set_1 (.ref l)
  refine wpAny_call (codeAny_of_tree ?_)
  show wpAny _ _ (callAny (.type "set") _) _ _ _
  refine wpAny_pure ⟨Code.quiet_builtin _ (by decide +kernel), codeAny_builtin F.entry_type_call ?_⟩
  rw [Around.under_plain (weight_type_call_type "set" [.ref l] []) rfl]
  repeat (any_goals (first | assumption | wp_step))

  refine codeAny_mono (code_set_led1 (.ref l) (E := E)
    (Q₁ := fun r t => r = .ref s.heap.objs.size ∧ t = { s with heap := s.heap.push (emptyS w) }) ⟨rfl, rfl⟩) fun r t hr => ?_
  rcases r with e | fl
  · exact hr
  cases fl with
  | ret obj =>
    obtain ⟨rfl, rfl⟩ := hr
    have at1 : (s.heap.push (emptyS w)).get? s.heap.objs.size = some (emptyS w) := Heap.get?_push_size _ rfl
    have ty1 : Shared.TypeIs { s with heap := s.heap.push (emptyS w) } (.ref s.heap.objs.size) "set" := ⟨_, at1, rfl⟩
    have look := F.called_set.init.lookup
    have bind := F.called_set.init.bind (.ref s.heap.objs.size)
    repeat (any_goals (first | assumption | wp_step))

    refine codeAny_mono (codeAny_call_builtin
      (R := wants (fun r t => r = .none ∧ ∃ g tk L, t = { s with heap := g, toks := tk } ∧ TxS w g s.heap.objs.size L ∧ L.length ≤ xs.length ∧ (∀ x, x ∈ L ↔ x ∈ xs) ∧
        (∀ b o, s.heap.get? b = some o → g.get? b = some o)) E)
      F.called_set.init.plain F.entry_set_init (check_set_init_1 ty1 ?_)) fun r2 t2 hr2 => ?_
    · have isl1 : (s.heap.push (emptyS w)).IsList l its := isl.push _
      have d1 := F.sub_list_set
      have d2 := F.sub_list_frozenset
      have nd : (Value.type "list" == Value.type "dict") = false := by decide
      obtain ⟨ol, hol, hcl, nl, hdl⟩ := id isl
      obtain ⟨oc, od, odt, osl⟩ := ol
      simp only at hcl hdl
      subst hcl; subst hdl
      have hol1 := Heap.get?_push_of_some (emptyS w) hol
      unfold Builtin.«set.__init__» noKeywords Builtin.Frozenset.updateFrom
      generalize hPI : pyIter = PI
      wp_walk
      subst hPI

      refine wpAny_pyIter_list isl1 ?_
      refine wpAny_bind (wpAny_runValue ?_)
      have lt : l < s.heap.objs.size := Heap.lt_size hol
      have h3 : A.in1.in1.in1.handled = none := by simp [h0]
      have sz : (s.heap.push (emptyS w)).objs.size = s.heap.objs.size + 1 := Heap.size_push ..
      have n1 : l ≠ (s.heap.push (emptyS w)).objs.size := by rw [sz]; exact Nat.ne_of_lt (Nat.lt_succ_of_lt lt)
      have n2 : s.heap.objs.size ∉ [(s.heap.push (emptyS w)).objs.size, l] := by
        rw [sz]
        intro m
        rcases List.mem_cons.mp m with z | z
        · exact Nat.succ_ne_self _ z.symm
        · exact Nat.ne_of_gt lt (List.mem_singleton.mp z)
      have val : ∀ (i : Nat) (v : Value), its[i]? = some v → ∃ x u, xs[i]? = some x ∧ v = .str x u := fun i v hv => by
        exact strs_get hin i v (by rw [Array.getElem?_toList]; exact hv)
      refine tx_loop ((Walks.list h3 _ l n1 its).toS) s.heap.objs.size n2 xs size small val
        its.size 0 _ (Nat.zero_add _).symm
        ⟨⟨_, Heap.get?_push_size _ rfl, rfl, rfl⟩, isl1.push _⟩
        ⟨[], Nat.le_refl 0, by simp, _, #[], 0, _, Heap.get?_push_of_some _ at1, ?_, rfl, by simp, .nil, .nil, ?_, ?_, ?_, ?_⟩ fun t' L mv le mm R => ?_
      rotate_right
      · obtain ⟨g, g2, dr, tk, os⟩ := t'
        have eg : g2 = s.gens := mv.gens
        have ed : dr = s.drawn := mv.drawn
        have eo : os = s.os := mv.os
        subst eg ed eo
        rw [size] at le
        show wpAny _ _ _ _ _ _
        refine wpAny_pure ?_
        show wpAny _ _ (ret Value.none) _ _ _
        refine wpAny_pure ⟨rfl, g, tk, L, rfl, R, le, mm, fun b o e => ?_⟩
        have lb : b < s.heap.objs.size := Heap.lt_size e
        refine mv.heap b o (fun m => ?_) (Heap.get?_push_of_some _ (Heap.get?_push_of_some _ e))
        rcases List.mem_cons.mp m with z | z
        · exact Nat.ne_of_lt lb z
        · have := List.mem_singleton.mp z
          rw [sz] at this
          exact Nat.ne_of_lt (Nat.lt_succ_of_lt lb) this
      · exact ⟨rfl, rfl, rfl⟩
      · exact (by decide : 0 < scanBound)
      · rfl
      · exact List.Pairwise.nil
      · show _ ∨ (!w.params.followText "set-order") = true
        cases w.params.followText "set-order"
        · exact .inr rfl
        · exact .inl rfl
    · rcases r2 with e | fl2
      · exact hr2
      cases fl2 with
      | ret r =>
        obtain ⟨rfl, g, tk, L, rfl, h1, h2, h3, h4⟩ := hr2
        repeat (any_goals (first | assumption | wp_step))
        exact q _ _ _ h1 h2 h3 h4
      | _ => exact hr2.elim
  | _ => exact hr.elim
/-- sorted(it) -/
theorem tx_sorted {a : Addr} {L : List Str} {Q : Value → Shared → Prop} (t : TxS w s.heap a L) (h0 : A.handled = none) (h64 : L.length < 64)
    (q : ∀ s' p (out : Array Value) (c : Nat) (ys : List Str), (∀ b o, s.heap.get? b = some o → s'.heap.get? b = some o) → s'.gens = s.gens → s'.os = s.os → s.heap.objs.size ≤ p →
      s'.heap.get? p = some (seqObj "list" out c) → StrsAre out.toList ys → ys.Perm L → PyProof.Rows.sortedS ys = true → Q (.ref p) s') :
    wpAny (model P w) A (call (.builtin "sorted") [.ref a]) Q E s := by
  obtain ⟨ob, arr, ep, tb, e0, ex, ed, g, p, n, b, f, r, l⟩ := t
  have bs : arr.size < scanBound := by rw [tx_size p]; exact b
  refine Calls.call_function_entry kind_sorted plain_sorted entry_sorted (args_sorted1 _) ?_
  unfold Builtin.«sorted»
  refine wpAny_bind (m := checkCount "sorted" 1 1 _) (wpAny_pure ?_)
  refine wpAny_bind (collect_set (A := A.in1) h0 ⟨ob, e0, ex.1, ed⟩ f bs r l fun s1 vs k1 hz g1 o1 pm => ?_)
  have vl : vs.length = L.length := by rw [pm.length_eq, List.length_map, Array.length_toList, tx_size p]
  have mk : ∀ us : List Value, (∀ v ∈ us, ∃ x u, v = Value.str x u) → StrsAre us (us.map fun v => match v with | .str x _ => x | _ => Str.empty) := fun us => by
    induction us with
    | nil => intro _; exact .nil
    | cons v us ih =>
      intro hv
      obtain ⟨x, u, rfl⟩ := hv v List.mem_cons_self
      exact .cons x u (ih fun z m => hv z (List.mem_cons_of_mem _ m))
  have hS := mk vs fun v hv => by
    obtain ⟨e, he, z⟩ := List.mem_map.mp (pm.mem_iff.mp hv)
    obtain ⟨x, u, h1, _⟩ := g e he
    exact ⟨x, u, z ▸ h1⟩
  have pk := pm.map fun v : Value => match v with | .str x _ => x | _ => Str.empty
  rw [List.map_map] at pk
  refine wpAny_bind (wpAny_newList ?_ (by rw [vl, sizeLine_eq]; omega))
  have hoL : (s1.heap.push (seqObj "list" vs.toArray 0)).get? s1.heap.objs.size = some (seqObj "list" vs.toArray 0) := Heap.get?_push_size _ rfl
  refine wpAny_bind (wpAny_holding (wpAny_call_entry slot_list_sort ⟨_, hoL, rfl⟩ entry_list_sort
    (list_sort_treeK strKind_oneLt hoL hS.keysOf (fun v₁ v₂ rest e => keyKind_strs (by rw [← e]; exact hS)) (by rw [vl]; exact h64) fun st hp hs => ⟨_, rfl, ?_⟩)
    (args_list_sort _)))
  obtain ⟨ys, y1, y2, y3⟩ := sorted_out_str hS hp hs
  obtain ⟨c, hc⟩ := sortedHeap_at (vs := vs) (out := (arrOf st).map (·.2)) hoL
  refine wpAny_pure ⟨_, rfl, q _ s1.heap.objs.size _ c ys (fun b' u e => ?_) g1 o1 hz hc y1 ((y2.trans pk).trans p) y3⟩
  have e2 := k1 b' u e
  have lt := Heap.lt_size e2
  show (sortedHeap (s1.heap.push (seqObj "list" vs.toArray 0)) s1.heap.objs.size vs _).get? b' = some u
  rw [sortedHeap_old (Nat.ne_of_lt lt) (by rw [size_push']; exact Nat.lt_succ_of_lt lt)]
  exact Heap.get?_push_of_some _ e2
end
/-- the set of texts at a -/
def TxO (w : World) (a : Addr) (L : List Str) : HO := .ext fun h => TxS w h a L
def rSetT (K : PySem.W.Frag) (w : World) : List V → Hp → VK → Prop := fun xs H Q => ∃ (p : Addr) (ns : List Str), xs = [.ref p] ∧ SqL K H p (ns.map V.str) ∧ ns.length ≤ 1000 ∧
  ∀ a L, H a = none → L.length ≤ ns.length → (∀ x, x ∈ L ↔ x ∈ ns) → Q (.ref a) (upd H a (TxO w a L))
theorem cr_setT {X : Cx} (hc : X.calm = true) : CallR X (.type "set") (rSetT X.K X.w) := by
  intro pins s σ H xs us Q I r h
  obtain ⟨p, ns, rfl, hq, hl, q⟩ := h
  obtain ⟨u, rfl, rx⟩ := vals1 r
  cases rx
  obtain ⟨its, rv, pl, hz⟩ := I.list hq
  refine tx_of ns (I.ok.hd hc) pl.isList (by simpa using Vals.strs rv) (by unfold scanBound; omega) fun g tk L R le mm k => ?_
  have ob : ObjOk X.prog X.w (upd H s.heap.objs.size (TxO X.w s.heap.objs.size L)) g s.heap.objs.size (TxO X.w s.heap.objs.size L) := by
    have ⟨o, _, _, _, ho, _⟩ := R
    exact ⟨R, ⟨o, ho⟩, fun h1 h2 p k => TxS.to p k⟩
  exact ⟨.ref s.heap.objs.size, _, I.laid (t' := tk) k (Nat.le_refl _) ob, rfl, q _ L (I.hok.fresh (Nat.le_refl _)) le mm⟩
end Vf

namespace Vf
open PySem L2 PySem.Spec PyProof.Rows He
def rSortT (w : World) : List V → Hp → VK → Prop := fun vs H Q => ∃ (a : Addr) (L : List Str), vs = [V.ref a] ∧ H a = some (TxO w a L) ∧ L.length < 64 ∧
  ∀ (ys : List Str) (p : Addr), L.Nodup → ys.Perm L → PyProof.Rows.sortedS ys = true → H p = none → Q (.ref p) (upd H p (.lst (ys.map V.str)))
theorem cr_sortedT {X : Cx} (hc : X.calm = true) : CallR X (.builtin "sorted") (rSortT X.w) := by
  intro pins s σ H vs us Q I r h
  obtain ⟨a, L, rfl, ha, h64, q⟩ := h
  have R : TxS X.w s.heap a L := (I.hok a _ ha).1
  have nd : L.Nodup := let ⟨_, _, _, _, _, _, _, _, _, n, _⟩ := R; n
  rw [Vals.ref1 r]
  refine tx_sorted R (I.ok.hd hc) h64 fun s' p out c ys k g o hp hg hi hm hs => ?_
  have len : (ys.map V.str).length ≤ sizeLine := by rw [List.length_map, hm.length_eq, sizeLine_eq]; omega
  have hn : H p = none := I.hok.fresh hp
  have J : Inv X pins σ (upd H p (.lst (ys.map V.str))) { s with heap := s'.heap, gens := s'.gens, drawn := s'.drawn, toks := s'.toks } :=
    I.call (ch := []) (Un.laid k hp hn) (I.hok.laid k hp ⟨len, out.toList, c, vals_of_strs hi, hg⟩) (by rw [g]; exact I.bare) (fun _ z => nomatch z)
  have e : s' = { s with heap := s'.heap, gens := s'.gens, drawn := s'.drawn, toks := s'.toks } := by
    obtain ⟨_, _, _, _, _⟩ := s'
    obtain ⟨_, _, _, _, _⟩ := s
    cases o
    rfl
  rw [e]
  exact ⟨.ref p, _, J, rfl, q ys p nd hm hs hn⟩
/-- xs.remove(y): the first equal one goes -/
def rRemD (K : PySem.W.Frag) : V → List V → Hp → VK → Prop := fun x vs H Q => ∃ (l : Addr) (y : V) (xs : List V) (d : PyData) (ds : List PyData) (j : Nat) (z : PyData), x = .ref l ∧ vs = [y] ∧ H l = some (.lst xs) ∧ DpAll K H xs ds ∧ Dp K H y d ∧
  SeqAt.shaped (.list ds) = true ∧ SeqAt.shaped d = true ∧ ds[j]? = some z ∧ PyData.eqv z d = true ∧ (∀ (m : Nat) (z' : PyData), m < j → ds[m]? = some z' → PyData.eqv z' d = false) ∧ Q .non (upd H l (.lst (xs.eraseIdx j)))
theorem mt_removeD {X : Cx} (hu : X.A.units + 65 < cLine) : MtM X "list.remove" (rRemD X.K) := by
  intro pins s σ H x vs v us Q I rx rv h
  obtain ⟨l, y, xs, d, ds, j, z, rfl, rfl, hH, hds, hy, sl, sd, hz, hzj, hno, q⟩ := h
  cases rx
  obtain ⟨uy, rfl, ry⟩ := rv.one
  obtain ⟨bs, r1⟩ := Dp.reads I d y uy hy ry
  obtain ⟨zl, its, n, r, hl, e⟩ := I.lstM hH
  obtain ⟨as, r2⟩ := Dp.readsAll I ds xs its hds r
  have can : PyData.canLayAll0 ds = true := SeqAt.canLay_of_shaped sl
  have rm : X.A.units + 1 + min (PyData.depthAll ds) d.depth < cLine := room_in_shaped sd hu
  have n1 : its.length = ds.length := SeqAt.ReadsAll.length ds its as r2
  have mp : its.map (SeqAt.readOf s.heap) = ds := SeqAt.readsAll_map ds its as can r2
  have jd : j < ds.length := (List.getElem?_eq_some_iff.mp hz).1
  have hj : j < its.toArray.size := by rw [List.size_toArray]; omega
  have see : ∀ (m : Nat) (hm : m < its.toArray.size) (z' : PyData), ds[m]? = some z' → SeqAt.readOf s.heap its.toArray[m] = z' := fun m hm z' e1 => by
    have hm2 : m < its.length := by rw [List.size_toArray] at hm; exact hm
    rw [← mp, List.getElem?_map, List.getElem?_eq_getElem hm2] at e1
    simpa using Option.some.inj e1
  have sl9 := sizeLine_eq
  refine call_meets PySem.F.slot_list_remove ⟨_, e, rfl⟩ PySem.F.entry_list_remove (PySem.F.args_list_remove_2 _ _)
    (SeqAt.list_removeAt l its.toArray n _ _ uy (fun u => PyData.eqv (SeqAt.readOf s.heap u) d) j hj ?_ ?_ (by rw [List.size_toArray]; omega))
    ⟨e, SeqAt.items_eqAt (vs := its.toArray) (show ReadsAll s.heap its.toArray.toList ds as from r2) r1 can (SeqAt.canLay_of_shaped sd) rm, ?_⟩
  · show PyData.eqv (SeqAt.readOf s.heap its.toArray[j]) d = true
    rw [see j hj z hz]; exact hzj
  · intro m hm lt
    have md : m < ds.length := by omega
    show PyData.eqv (SeqAt.readOf s.heap its.toArray[m]) d = false
    rw [see m hm _ (List.getElem?_eq_getElem md)]
    exact hno m _ lt (List.getElem?_eq_getElem md)
  · refine ⟨.non, _, I.lset (its' := its.eraseIdx j) (t' := s.toks) hH e ?_ (r.eraseIdx j) ?_, rfl, q⟩
    · show its.toArray.eraseIdxIfInBounds j = (its.eraseIdx j).toArray
      rw [List.eraseIdxIfInBounds_toArray]
    · have := len_erase xs j
      omega
end Vf
namespace Vf
open PySem L2 PySem.Spec PyProof.Rows He
theorem ePK (K : PySem.W.Frag) {X : Cx} (hu : X.A.units + 64 < cLine) (hK : X.K = K := by rfl) : OpR X (compareOp .Eq) (rEqP K) := hK ▸ op_eqP hu
theorem nPK (K : PySem.W.Frag) {X : Cx} (hu : X.A.units + 64 < cLine) (hK : X.K = K := by rfl) : OpR X (compareOp .NotEq) (rNeP K) := hK ▸ op_neP hu
end Vf

/-! for k, (a, b) in enumerate(zip(s, t)): two tuples. The pairs are let go by nobody: the zip then knows of one that is out. -/
namespace Vf
open PySem L2 PySem.Spec PyProof.Rows He RZ
abbrev ZSt (h : Heap) (z TI TO : Addr) (own : Value) (f : Bool) : Prop := h.get? z = some { slots := #[], data := .fields #[own, .bool f, .bool false, .ref TI, .ref TO], dict := none, cls := .type "zip" }
def OwnOk (own : Value) : Prop := own = .none ∨ ∃ T : Addr, own = rawInt T
section
variable {P : Program} {w : World} {A : Around} {E : Value → Shared → Prop} {s : Shared} {z TI TO : Addr} {own : Value} {f : Bool}
theorem z_free (hz : ZSt s.heap z TI TO own f) (ho : OwnOk own) {Q : Bool → Shared → Prop} (q : ∀ (b : Bool) (g : Heap) (f' : Bool), ZSt g z TI TO own f' → Heap.SameBut z s.heap g → Q b { s with heap := g }) :
    wpAny (model P w) A (Builtin.SmallTypes.ownedTupleIsFree (.ref z)) Q E s := by
  unfold Builtin.SmallTypes.ownedTupleIsFree
  rcases ho with rfl | ⟨T, rfl⟩
  · exact wpAny_bind (wpAny_field hz rfl (x := .none) rfl (wpAny_pure (q true s.heap f hz (Heap.SameBut.refl _ _))))
  · refine wpAny_bind (wpAny_field hz rfl (x := rawInt T) rfl ?_)
    show wpAny _ _ (loadIfAlive ((T : Int).toNat) >>= _) _ _ _
    refine wpAny_bind ?_
    have al : ∀ {R : Option Obj → Shared → Prop}, R (s.heap.get? (T : Int).toNat) s → wpAny (model P w) A (loadIfAlive ((T : Int).toNat)) R E s := by
      intro R h
      exact fun _ _ _ => h
    refine al ?_
    cases hT : s.heap.get? (T : Int).toNat with
    | none => exact wpAny_pure (q true s.heap f hz (Heap.SameBut.refl _ _))
    | some o =>
      simp only [Option.isNone_some, Bool.false_eq_true, if_false]
      refine wpAny_bind (wpAny_field hz rfl (x := .bool f) rfl ?_)
      cases f with
      | true =>
        rw [if_neg (show ¬ ((Value.bool true != Value.bool true) = true) from Bool.false_ne_true)]
        exact wpAny_pure (q false s.heap true hz (Heap.SameBut.refl _ _))
      | false =>
        rw [if_pos (show (Value.bool false != Value.bool true) = true from rfl)]
        exact wpAny_bind (wpAny_setField_rec hz (by simp) fun g hg sg => wpAny_pure (q false g true hg sg))
/-- what is apart -/
theorem z_item {i1 i2 l1 l2 : Addr} {k : Nat} {xs ys : Array Value} {x y c d : Value} {Q : Value → Shared → Prop} (D : ZipApart z TI TO i1 i2 l1 l2) (hz : ZSt s.heap z TI TO own f) (ho : OwnOk own)
    (hI : IsPair s.heap TI (.ref i1) (.ref i2)) (hO : IsPair s.heap TO c d) (t1 : s.heap.IsTupleIter i1 l1 k) (t2 : s.heap.IsTupleIter i2 l2 k)
    (r1 : s.heap.IsTuple l1 xs) (r2 : s.heap.IsTuple l2 ys) (ex : xs[k]? = some x) (ey : ys[k]? = some y)
    (q : ∀ (g : Heap) (own' : Value) (f' : Bool) (c' d' : Value), ZSt g z TI TO own' f' → OwnOk own' → IsPair g TO c' d' → g.IsTupleIter i1 l1 (k + 1) → g.IsTupleIter i2 l2 (k + 1) → IsPair g s.heap.objs.size x y → g.objs.size = s.heap.objs.size + 1 →
      (∀ b o, b ≠ z → b ≠ TO → b ≠ i1 → b ≠ i2 → s.heap.get? b = some o → g.get? b = some o) → Q (.ref s.heap.objs.size) { s with heap := g }) :
    wpAny (model P w) A (Builtin.SmallTypes.nextOf (.ref z)) Q E s := by
  have ty : s.TypeIs (.ref z) "zip" := ⟨_, hz, rfl⟩
  unfold Builtin.SmallTypes.nextOf
  refine wpAny_bind (wpAny_callSpecial?_slot (name := Str.ofString "__next__") ty F.slot_zip_next (wpAny_call_entry F.slot_zip_next ty F.entry_zip_next ?_ (F.args_zip_next_1 _)))
  show wpAny _ _ (field (.ref z) 2 >>= _) _ _ _
  refine wpAny_bind (wpAny_field hz rfl (x := .bool false) rfl ?_)
  show wpAny _ _ (field (.ref z) 3 >>= _) _ _ _
  refine wpAny_bind (wpAny_field hz rfl (x := .ref TI) rfl ?_)
  refine wpAny_bind (wpAny_seqItems hI rfl ?_)
  show wpAny _ _ (Builtin.SmallTypes.ownedTupleIsFree (.ref z) >>= _) _ _ _
  refine wpAny_bind (z_free hz ho fun b g1 f1 z1 s1 => ?_)
  have t1a := t1.extBut s1.extBut D.i1z
  have t2a := t2.extBut s1.extBut D.i2z
  have r1a := r1.extBut s1.extBut D.l1z
  have r2a := r2.extBut s1.extBut D.l2z
  have oa : IsPair g1 TO c d := s1.extBut _ _ D.TOz hO
  cases b with
  | true =>
    simp only [if_true]
    refine wpAny_bind (wpAny_rule ?_)
    refine wpAny_bind (wpAny_field z1 rfl (x := .ref TO) rfl ?_)
    refine wpAny_bind (wpAny_setField_rec z1 (by simp) fun g2 z2 s2 => ?_)
    replace z2 : ZSt g2 z TI TO .ellipsis f1 := z2
    refine wpAny_bind ?_
    simp only [List.zipIdx_cons, List.zipIdx_nil, List.forIn_cons, List.forIn_nil]
    refine wpAny_bind (wpAny_bind (wpAny_onRaise ?_))
    show wpAny _ _ (Builtin.SmallTypes.nextOf (.ref i1) >>= _) _ _ _
    refine wpAny_bind (nextOf_tuple_item (t1a.extBut s2.extBut D.i1z) (r1a.extBut s2.extBut D.l1z) ex fun g3 t1b s3 => wpAny_pure ?_)
    have ob : IsPair g3 TO c d := s3.extBut _ _ D.TOi1 (s2.extBut _ _ D.TOz oa)
    refine wpAny_bind (wpAny_seqItems ob rfl ?_)
    refine wpAny_bind (wpAny_updateSeq_pair ob fun g4 oc s4 => ?_)
    replace oc : IsPair g4 TO x d := oc
    refine wpAny_bind (wpAny_letGo (wpAny_pure ?_))
    refine wpAny_bind (wpAny_bind (wpAny_onRaise ?_))
    show wpAny _ _ (Builtin.SmallTypes.nextOf (.ref i2) >>= _) _ _ _
    refine wpAny_bind (nextOf_tuple_item (((t2a.extBut s2.extBut D.i2z).extBut s3.extBut D.i12.symm).extBut s4.extBut D.TOi2.symm) (((r2a.extBut s2.extBut D.l2z).extBut s3.extBut D.l2i1).extBut s4.extBut D.l2TO) ey fun g5 t2b s5 => wpAny_pure ?_)
    have od : IsPair g5 TO x d := s5.extBut _ _ D.TOi2 oc
    refine wpAny_bind (wpAny_seqItems od rfl ?_)
    refine wpAny_bind (wpAny_updateSeq_pair od fun g6 oe s6 => ?_)
    replace oe : IsPair g6 TO x y := oe
    refine wpAny_bind (wpAny_letGo (wpAny_pure (wpAny_pure ?_)))
    refine wpAny_bind (wpAny_seqItems oe rfl ?_)
    refine wpAny_bind (wpAny_newTuple ?_)
    have size : g6.objs.size = s.heap.objs.size := by rw [s6.1, s5.1, s4.1, s3.1, s2.1, s1.1]
    have z6 : ZSt g6 z TI TO .ellipsis f1 := s6.extBut _ _ D.TOz.symm (s5.extBut _ _ D.i2z.symm (s4.extBut _ _ D.TOz.symm (s3.extBut _ _ D.i1z.symm z2)))
    have k6 : ∀ b o, b ≠ z → b ≠ TO → b ≠ i1 → b ≠ i2 → s.heap.get? b = some o → g6.get? b = some o := fun b o n1 n2 n3 n4 e => s6.extBut _ _ n2 (s5.extBut _ _ n4 (s4.extBut _ _ n2 (s3.extBut _ _ n3 (s2.extBut _ _ n1 (s1.extBut _ _ n1 e)))))
    have t16 : g6.IsTupleIter i1 l1 (k + 1) := ((t1b.extBut s4.extBut D.TOi1.symm).extBut s5.extBut D.i12).extBut s6.extBut D.TOi1.symm
    have t26 : g6.IsTupleIter i2 l2 (k + 1) := t2b.extBut s6.extBut D.TOi2.symm
    have zl : z < g6.objs.size := Heap.lt_size z6
    show wpAny _ _ (Builtin.SmallTypes.ownedTupleHandOut (.ref z) (.ref g6.objs.size) >>= _) _ _ _
    refine wpAny_bind ?_
    unfold Builtin.SmallTypes.ownedTupleHandOut
    have z7 : ZSt (g6.push { cls := .type "tuple", data := .seq #[x, y] }) z TI TO .ellipsis f1 := Heap.get?_push_of_some _ z6
    refine wpAny_bind (wpAny_setField_rec z7 (by simp) fun g8 z8 s8 => ?_)
    replace z8 : ZSt g8 z TI TO (rawInt g6.objs.size) f1 := z8
    refine wpAny_setField_rec z8 (by simp) fun g9 z9 s9 => ?_
    replace z9 : ZSt g9 z TI TO (rawInt g6.objs.size) false := z9
    have up : ∀ b o, b ≠ z → g6.get? b = some o → g9.get? b = some o := fun b o n e => s9.extBut _ _ n (s8.extBut _ _ n (Heap.get?_push_of_some _ e))
    have p9 : IsPair g9 g6.objs.size x y := s9.extBut _ _ (Nat.ne_of_gt zl) (s8.extBut _ _ (Nat.ne_of_gt zl) (Heap.get?_push_size _ rfl))
    have size9 : g9.objs.size = g6.objs.size + 1 := by rw [s9.1, s8.1, Heap.size_push]
    rw [size] at z9 p9 size9
    refine wpAny_pure ⟨_, rfl, wpAny_pure ?_⟩
    show Q (.ref g6.objs.size) _
    rw [size]
    exact q g9 _ _ _ _ z9 (.inr ⟨_, rfl⟩) (up _ _ D.TOz oe) (t16.at fun o e => up _ o D.i1z e) (t26.at fun o e => up _ o D.i2z e) p9 size9 fun b o n1 n2 n3 n4 e => up b o n1 (k6 b o n1 n2 n3 n4 e)
  | false =>
    simp only [Bool.false_eq_true, if_false]
    refine wpAny_bind ?_
    rw [← Array.forIn_toList]
    simp only [List.forIn_cons, List.forIn_nil]
    refine wpAny_bind (wpAny_bind (wpAny_holding ?_))
    show wpAny _ _ (Builtin.SmallTypes.nextOf (.ref i1) >>= _) _ _ _
    refine wpAny_bind (nextOf_tuple_item t1a r1a ex fun g3 t1b s3 => wpAny_pure ?_)
    refine wpAny_pure ?_
    refine wpAny_bind (wpAny_bind (wpAny_holding ?_))
    show wpAny _ _ (Builtin.SmallTypes.nextOf (.ref i2) >>= _) _ _ _
    refine wpAny_bind (nextOf_tuple_item (t2a.extBut s3.extBut D.i12.symm) (r2a.extBut s3.extBut D.l2i1) ey fun g5 t2b s5 => wpAny_pure ?_)
    refine wpAny_pure (wpAny_pure ?_)
    show wpAny _ _ (newTuple [x, y] >>= _) _ _ _
    refine wpAny_bind (wpAny_newTuple ?_)
    have size : g5.objs.size = s.heap.objs.size := by rw [s5.1, s3.1, s1.1]
    have z5 : ZSt g5 z TI TO own f1 := s5.extBut _ _ D.i2z.symm (s3.extBut _ _ D.i1z.symm z1)
    have o5 : IsPair g5 TO c d := s5.extBut _ _ D.TOi2 (s3.extBut _ _ D.TOi1 oa)
    have k5 : ∀ b o, b ≠ z → b ≠ i1 → b ≠ i2 → s.heap.get? b = some o → g5.get? b = some o := fun b o n1 n3 n4 e => s5.extBut _ _ n4 (s3.extBut _ _ n3 (s1.extBut _ _ n1 e))
    have t15 : g5.IsTupleIter i1 l1 (k + 1) := t1b.extBut s5.extBut D.i12
    have p9 : IsPair (g5.push { cls := .type "tuple", data := .seq #[x, y] }) g5.objs.size x y := Heap.get?_push_size _ rfl
    have size9 : (g5.push { cls := .type "tuple", data := .seq #[x, y] }).objs.size = g5.objs.size + 1 := Heap.size_push ..
    refine wpAny_pure ⟨_, rfl, wpAny_pure ?_⟩
    show Q (.ref g5.objs.size) _
    rw [size] at p9 size9 ⊢
    exact q _ _ _ _ _ (Heap.get?_push_of_some _ z5) ho (Heap.get?_push_of_some _ o5) (t15.at fun o e => Heap.get?_push_of_some _ e) (t2b.at fun o e => Heap.get?_push_of_some _ e) p9 size9 fun b o n1 _ n3 n4 e => Heap.get?_push_of_some _ (k5 b o n1 n3 n4 e)
/-- nothing is left -/
theorem z_end {i1 i2 l1 l2 : Addr} {k : Nat} {xs ys : Array Value} {c d : Value} {Q : Value → Shared → Prop} (h0 : A.handled = none) (D : ZipApart z TI TO i1 i2 l1 l2) (hz : ZSt s.heap z TI TO own f) (ho : OwnOk own)
    (hI : IsPair s.heap TI (.ref i1) (.ref i2)) (hO : IsPair s.heap TO c d) (t1 : s.heap.IsTupleIter i1 l1 k) (t2 : s.heap.IsTupleIter i2 l2 k)
    (r1 : s.heap.IsTuple l1 xs) (r2 : s.heap.IsTuple l2 ys) (ends : xs[k]? = none ∨ ys[k]? = none)
    (q : ∀ (g : Heap) (x : Addr), (∀ b o, b ≠ z → b ≠ TO → b ≠ i1 → b ≠ i2 → s.heap.get? b = some o → g.get? b = some o) → (∃ o, g.get? x = some o ∧ o.cls = .type "StopIteration") → E (.ref x) { s with heap := g }) :
    wpAny (model P w) A (Builtin.SmallTypes.nextOf (.ref z)) Q E s := by
  have ty : s.TypeIs (.ref z) "zip" := ⟨_, hz, rfl⟩
  unfold Builtin.SmallTypes.nextOf
  refine wpAny_bind (wpAny_callSpecial?_slot (name := Str.ofString "__next__") ty F.slot_zip_next (wpAny_call_entry F.slot_zip_next ty F.entry_zip_next ?_ (F.args_zip_next_1 _)))
  show wpAny _ _ (field (.ref z) 2 >>= _) _ _ _
  refine wpAny_bind (wpAny_field hz rfl (x := .bool false) rfl ?_)
  show wpAny _ _ (field (.ref z) 3 >>= _) _ _ _
  refine wpAny_bind (wpAny_field hz rfl (x := .ref TI) rfl ?_)
  refine wpAny_bind (wpAny_seqItems hI rfl ?_)
  show wpAny _ _ (Builtin.SmallTypes.ownedTupleIsFree (.ref z) >>= _) _ _ _
  refine wpAny_bind (z_free hz ho fun b g1 f1 z1 s1 => ?_)
  have t1a := t1.extBut s1.extBut D.i1z
  have t2a := t2.extBut s1.extBut D.i2z
  have r1a := r1.extBut s1.extBut D.l1z
  have r2a := r2.extBut s1.extBut D.l2z
  have oa : IsPair g1 TO c d := s1.extBut _ _ D.TOz hO
  cases b with
  | true =>
    simp only [if_true]
    refine wpAny_bind (wpAny_rule ?_)
    refine wpAny_bind (wpAny_field z1 rfl (x := .ref TO) rfl ?_)
    refine wpAny_bind (wpAny_setField_rec z1 (by simp) fun g2 z2 s2 => ?_)
    replace z2 : ZSt g2 z TI TO .ellipsis f1 := z2
    refine wpAny_bind ?_
    simp only [List.zipIdx_cons, List.zipIdx_nil, List.forIn_cons, List.forIn_nil]
    refine wpAny_bind (wpAny_bind (wpAny_onRaise ?_))
    show wpAny _ _ (Builtin.SmallTypes.nextOf (.ref i1) >>= _) _ _ _
    cases ex : xs[k]? with
    | none =>
      refine wpAny_bind (nextOf_tuple_end h0 (t1a.extBut s2.extBut D.i1z) (r1a.extBut s2.extBut D.l1z) ex fun g3 er s3 ⟨oe, e1, e2⟩ => ?_)
      have z3 : ZSt g3 z TI TO .ellipsis f1 := s3 _ _ D.i1z.symm z2
      have ne : er ≠ z := fun h => by subst h; rw [z3] at e1; cases e1; simp at e2
      refine wpAny_setField_rec z3 (by simp) fun g4 _ s4 => q g4 er (fun b o n1 n2 n3 n4 e => s4.extBut _ _ n1 (s3 _ _ n3 (s2.extBut _ _ n1 (s1.extBut _ _ n1 e)))) ⟨oe, s4.extBut _ _ ne e1, e2⟩
    | some x =>
      have ey : ys[k]? = none := ends.resolve_left (by rw [ex]; exact fun z => nomatch z)
      refine wpAny_bind (nextOf_tuple_item (t1a.extBut s2.extBut D.i1z) (r1a.extBut s2.extBut D.l1z) ex fun g3 t1b s3 => wpAny_pure ?_)
      have ob : IsPair g3 TO c d := s3.extBut _ _ D.TOi1 (s2.extBut _ _ D.TOz oa)
      refine wpAny_bind (wpAny_seqItems ob rfl ?_)
      refine wpAny_bind (wpAny_updateSeq_pair ob fun g4 oc s4 => ?_)
      refine wpAny_bind (wpAny_letGo (wpAny_pure ?_))
      refine wpAny_bind (wpAny_bind (wpAny_onRaise ?_))
      show wpAny _ _ (Builtin.SmallTypes.nextOf (.ref i2) >>= _) _ _ _
      refine wpAny_bind (nextOf_tuple_end h0 (((t2a.extBut s2.extBut D.i2z).extBut s3.extBut D.i12.symm).extBut s4.extBut D.TOi2.symm) (((r2a.extBut s2.extBut D.l2z).extBut s3.extBut D.l2i1).extBut s4.extBut D.l2TO) ey fun g5 er s5 ⟨oe, e1, e2⟩ => ?_)
      have z5 : ZSt g5 z TI TO .ellipsis f1 := s5 _ _ D.i2z.symm (s4.extBut _ _ D.TOz.symm (s3.extBut _ _ D.i1z.symm z2))
      have ne : er ≠ z := fun h => by subst h; rw [z5] at e1; cases e1; simp at e2
      refine wpAny_setField_rec z5 (by simp) fun g6 _ s6 => q g6 er (fun b o n1 n2 n3 n4 e => s6.extBut _ _ n1 (s5 _ _ n4 (s4.extBut _ _ n2 (s3.extBut _ _ n3 (s2.extBut _ _ n1 (s1.extBut _ _ n1 e)))))) ⟨oe, s6.extBut _ _ ne e1, e2⟩
  | false =>
    simp only [Bool.false_eq_true, if_false]
    refine wpAny_bind ?_
    rw [← Array.forIn_toList]
    simp only [List.forIn_cons, List.forIn_nil]
    refine wpAny_bind (wpAny_bind (wpAny_holding ?_))
    show wpAny _ _ (Builtin.SmallTypes.nextOf (.ref i1) >>= _) _ _ _
    cases ex : xs[k]? with
    | none =>
      exact wpAny_bind (nextOf_tuple_end h0 t1a r1a ex fun g3 er s3 he => q g3 er (fun b o n1 n2 n3 n4 e => s3 _ _ n3 (s1.extBut _ _ n1 e)) he)
    | some x =>
      have ey : ys[k]? = none := ends.resolve_left (by rw [ex]; exact fun z => nomatch z)
      refine wpAny_bind (nextOf_tuple_item t1a r1a ex fun g3 t1b s3 => wpAny_pure ?_)
      refine wpAny_pure ?_
      refine wpAny_bind (wpAny_bind (wpAny_holding ?_))
      show wpAny _ _ (Builtin.SmallTypes.nextOf (.ref i2) >>= _) _ _ _
      exact wpAny_bind (nextOf_tuple_end h0 (t2a.extBut s3.extBut D.i12.symm) (r2a.extBut s3.extBut D.l2i1) ey fun g5 er s5 he => q g5 er (fun b o n1 n2 n3 n4 e => s5 _ _ n4 (s3.extBut _ _ n3 (s1.extBut _ _ n1 e))) he)
/-- the next one told: its pair first, then the pair of its number and that -/
theorem ez_item {e i1 i2 l1 l2 : Addr} {k : Nat} {xs ys : Array Value} {x y c d prev : Value} {Q : Option Value → Shared → Prop} (D : ZipApart z TI TO i1 i2 l1 l2) (he : IsEnum s.heap e z (k : Int) prev) (hz : ZSt s.heap z TI TO own f) (ho : OwnOk own)
    (n1 : e ≠ z) (n2 : e ≠ TO) (n3 : e ≠ i1) (n4 : e ≠ i2) (n5 : e ≠ TI)
    (hI : IsPair s.heap TI (.ref i1) (.ref i2)) (hO : IsPair s.heap TO c d) (t1 : s.heap.IsTupleIter i1 l1 k) (t2 : s.heap.IsTupleIter i2 l2 k)
    (r1 : s.heap.IsTuple l1 xs) (r2 : s.heap.IsTuple l2 ys) (ex : xs[k]? = some x) (ey : ys[k]? = some y)
    (q : ∀ (g g' : Heap) (tk : Nat) (own' : Value) (f' : Bool) (c' d' v : Value), IsPair g s.heap.objs.size x y → g.objs.size = s.heap.objs.size + 1 → (∀ b o, b ≠ z → b ≠ TO → b ≠ i1 → b ≠ i2 → s.heap.get? b = some o → g.get? b = some o) →
      (∀ b o, b ≠ e → g.get? b = some o → g'.get? b = some o) → IsEnumOut g' e z ((k : Int) + 1) v (s.heap.objs.size + 1) → ZSt g' z TI TO own' f' → OwnOk own' → IsPair g' TO c' d' → g'.IsTupleIter i1 l1 (k + 1) → g'.IsTupleIter i2 l2 (k + 1) →
      (∃ tt, IsPair g' (s.heap.objs.size + 1) (.int k tt) (.ref s.heap.objs.size)) → Q (some (.ref (s.heap.objs.size + 1))) { s with heap := g', toks := tk }) :
    wpAny (model P w) A (pyNext (.ref e)) Q E s := by
  have ty : s.TypeIs (.ref e) "enumerate" := ⟨_, he, rfl⟩
  unfold pyNext
  refine wpAny_bind (wpAny_attempt (wpAny_callSpecial?_slot (name := Str.ofString "__next__") ty F.slot_enumerate_next (wpAny_call_entry F.slot_enumerate_next ty F.entry_enumerate_next ?_ (F.args_enumerate_next_1 _))))
  show wpAny (model P w) A.in1 (field (.ref e) 2 >>= _) _ _ s
  refine wpAny_bind (wpAny_field he rfl (x := .ref z) rfl ?_)
  refine wpAny_bind (z_item D hz ho hI hO t1 t2 r1 r2 ex ey fun g own' f' c' d' z' oo po a1 a2 pn size keep => ?_)
  obtain ⟨hp, gs, dr, tk, os⟩ := s
  dsimp only at he pn size keep q ⊢
  have e1 : IsEnum g e z (k : Int) prev := keep e _ n1 n2 n3 n4 he
  have el : e < hp.objs.size := Heap.lt_size he
  show wpAny _ _ (field (.ref e) 3 >>= _) _ _ ⟨g, gs, dr, tk, os⟩
  refine wpAny_bind (wpAny_field e1 rfl (x := rawInt k) rfl ?_)
  show wpAny _ _ (field (.ref e) 4 >>= _) _ _ ⟨g, gs, dr, tk, os⟩
  refine wpAny_bind (wpAny_field e1 rfl (x := .none) rfl ?_)
  show wpAny _ _ (mkInt k >>= _) _ _ ⟨g, gs, dr, tk, os⟩
  refine wpAny_bind (wpAny_mkInt ?_)
  show wpAny _ _ (setField (.ref e) 3 (rawInt ((k : Int) + 1)) >>= _) _ _ ⟨g, gs, dr, tk + 1, os⟩
  refine wpAny_bind (wpAny_setField_rec e1 (by simp) fun g2 e2 s2 => ?_)
  replace s2 : Heap.SameBut e g g2 := s2
  replace e2 : IsEnum g2 e z ((k : Int) + 1) prev := e2
  show wpAny _ _ (setField (.ref e) 4 .none >>= _) _ _ ⟨g2, gs, dr, tk + 1, os⟩
  refine wpAny_bind (wpAny_setField_rec e2 (by simp) fun g3 e3 s3 => ?_)
  replace s3 : Heap.SameBut e g2 g3 := s3
  replace e3 : IsEnum g3 e z ((k : Int) + 1) prev := e3
  show wpAny _ _ (newTuple [.int k tk, .ref hp.objs.size] >>= _) _ _ ⟨g3, gs, dr, tk + 1, os⟩
  refine wpAny_bind (wpAny_newTuple ?_)
  have size3 : g3.objs.size = hp.objs.size + 1 := by rw [s3.1, s2.1, size]
  have e4 : IsEnum (g3.push { cls := .type "tuple", data := .seq #[.int k tk, .ref hp.objs.size] }) e z ((k : Int) + 1) prev := Heap.get?_push_of_some _ e3
  have p4 : IsPair (g3.push { cls := .type "tuple", data := .seq #[.int k tk, .ref hp.objs.size] }) (hp.objs.size + 1) (.int k tk) (.ref hp.objs.size) := by rw [← size3]; exact Heap.get?_push_size _ rfl
  have k4 : ∀ b o, b ≠ e → g.get? b = some o → (g3.push { cls := .type "tuple", data := .seq #[.int k tk, .ref hp.objs.size] }).get? b = some o := fun b o n h => Heap.get?_push_of_some _ (s3.extBut b o n (s2.extBut b o n h))
  generalize g3.push { cls := .type "tuple", data := .seq #[.int k tk, .ref hp.objs.size] } = g4 at e4 p4 k4
  show wpAny _ _ (Builtin.SmallTypes.ownedTupleIsFree (.ref e) >>= _) _ _ ⟨g4, gs, dr, tk + 1, os⟩
  rw [size3]
  refine wpAny_bind ?_
  unfold Builtin.SmallTypes.ownedTupleIsFree
  refine wpAny_bind (wpAny_field e4 rfl (x := .none) rfl (wpAny_pure ?_))
  simp only [if_true]
  refine wpAny_bind (wpAny_rule ?_)
  refine wpAny_bind (wpAny_field e4 rfl (x := prev) rfl ?_)
  refine wpAny_bind (wpAny_setField_rec e4 (by simp) fun g5 e5 s5 => ?_)
  replace s5 : Heap.SameBut e g4 g5 := s5
  replace e5 : IsEnum g5 e z ((k : Int) + 1) (.ref hp.objs.size) := e5
  show wpAny _ _ (Builtin.SmallTypes.ownedTupleHandOut (.ref e) (.ref (hp.objs.size + 1)) >>= _) _ _ ⟨g5, gs, dr, tk + 1, os⟩
  refine wpAny_bind ?_
  unfold Builtin.SmallTypes.ownedTupleHandOut
  refine wpAny_bind (wpAny_setField_rec e5 (by simp) fun g6 e6 s6 => ?_)
  replace s6 : Heap.SameBut e g5 g6 := s6
  replace e6 : IsEnumOut g6 e z ((k : Int) + 1) (.ref hp.objs.size) (hp.objs.size + 1) := e6
  refine wpAny_setField_rec e6 (by simp) fun g7 e7 s7 => ?_
  replace s7 : Heap.SameBut e g6 g7 := s7
  replace e7 : IsEnumOut g7 e z ((k : Int) + 1) (.ref hp.objs.size) (hp.objs.size + 1) := e7
  have k7 : ∀ b o, b ≠ e → g4.get? b = some o → g7.get? b = some o := fun b o n h => s7.extBut b o n (s6.extBut b o n (s5.extBut b o n h))
  have up : ∀ b o, b ≠ e → g.get? b = some o → g7.get? b = some o := fun b o n h => k7 b o n (k4 b o n h)
  refine wpAny_bind (wpAny_letGo (wpAny_pure ⟨_, rfl, wpAny_pure (q g g7 (tk + 1) own' f' c' d' _ pn size keep up e7 (up _ _ (Ne.symm n1) z') oo (up _ _ (Ne.symm n2) po) (a1.at fun o h => up _ o (Ne.symm n3) h) (a2.at fun o h => up _ o (Ne.symm n4) h) ⟨tk, k7 _ _ ?_ p4⟩)⟩))
  exact Nat.ne_of_gt (Nat.lt_succ_of_lt el)
theorem ez_end {e i1 i2 l1 l2 : Addr} {k : Nat} {xs ys : Array Value} {c d prev : Value} {Q : Option Value → Shared → Prop} (h0 : A.handled = none) (D : ZipApart z TI TO i1 i2 l1 l2) (he : IsEnum s.heap e z (k : Int) prev) (hz : ZSt s.heap z TI TO own f) (ho : OwnOk own)
    (hI : IsPair s.heap TI (.ref i1) (.ref i2)) (hO : IsPair s.heap TO c d) (t1 : s.heap.IsTupleIter i1 l1 k) (t2 : s.heap.IsTupleIter i2 l2 k)
    (r1 : s.heap.IsTuple l1 xs) (r2 : s.heap.IsTuple l2 ys) (ends : xs[k]? = none ∨ ys[k]? = none)
    (q : ∀ g : Heap, (∀ b o, b ≠ z → b ≠ TO → b ≠ i1 → b ≠ i2 → s.heap.get? b = some o → g.get? b = some o) → Q none { s with heap := g }) :
    wpAny (model P w) A (pyNext (.ref e)) Q E s := by
  have ty : s.TypeIs (.ref e) "enumerate" := ⟨_, he, rfl⟩
  unfold pyNext
  refine wpAny_bind (wpAny_attempt (wpAny_callSpecial?_slot (name := Str.ofString "__next__") ty F.slot_enumerate_next (wpAny_call_entry F.slot_enumerate_next ty F.entry_enumerate_next ?_ (F.args_enumerate_next_1 _))))
  show wpAny (model P w) A.in1 (field (.ref e) 2 >>= _) _ _ s
  refine wpAny_bind (wpAny_field he rfl (x := .ref z) rfl ?_)
  refine wpAny_bind (z_end (by simp [h0]) D hz ho hI hO t1 t2 r1 r2 ends fun g x keep ⟨oe, e1, e2⟩ => ?_)
  refine wpAny_bind (wpAny_isInstance (T := "StopIteration") (b := true) ⟨oe, e1, e2⟩ isSubtype_stop ?_)
  exact wpAny_pure (q g keep)
end
end Vf

namespace PySem
theorem meets_enumerate_zip (z TI TO : Addr) (f0 : Value) :
    Meets (Builtin.«enumerate.__new__» ⟨[.type "enumerate", .ref z], []⟩) (fun _ R s => IsZip s.heap z TI TO f0 ∧
      R (.ok (.ret (.ref s.heap.objs.size))) { s with heap := s.heap.push { data := .fields #[.none, .bool false, .ref z, rawInt 0, .none, .none], cls := .type "enumerate" } }) :=
  .of_wp fun prg w A R s h => by
    obtain ⟨hp, g, d, tk, os⟩ := s; obtain ⟨hz, h⟩ := h
    have hsub := sub_enumerate
    have zz : IsZip (Shared.heap ⟨hp, g, d, tk, os⟩) z TI TO f0 := hz
    have q1 : ∀ {A' : Around} {E : Value → Shared → Prop} {Q : Value → Shared → Prop}, Q (.ref z) ⟨hp, g, d, tk, os⟩ → wpAny (model prg w) A' (pyIter (.ref z)) Q E ⟨hp, g, d, tk, os⟩ := fun q => wpAny_pyIter_zip zz q
    wp_walk using q1
    refine wpAny_stack_any fun here => wpAny_pure ?_
    split
    · rename_i cls9 _ _ _ _ _
      cases (cls9 == Value.type "enumerate")
      · wp_walk using q1
        exact ⟨_, rfl, h⟩
      · wp_walk using q1
        exact ⟨_, rfl, h⟩
    · wp_walk using q1
      exact ⟨_, rfl, h⟩
theorem call_enumerate_zip {prg : Program} {w : World} {A : Around} {E : Value → Shared → Prop} {s : Shared} {z TI TO : Addr} {f0 : Value} {Q : Value → Shared → Prop} (hz : IsZip s.heap z TI TO f0)
    (h : ∀ g, IsEnum g s.heap.objs.size z 0 .none → (∀ b o, s.heap.get? b = some o → g.get? b = some o) → Q (.ref s.heap.objs.size) { s with heap := g }) :
    wpAny (model prg w) A (call (.type "enumerate") [.ref z]) Q E s := by
  refine callType_new F.called_enumerate (by decide) (F.typeCall_enumerate_1 _) (F.newCall_enumerate_1 _) (fun it => F.args_object_init_2 it _) F.entry_enumerate_new (meets_enumerate_zip z TI TO f0) ⟨hz, ?_⟩
  have qe : IsEnum (s.heap.push { data := .fields #[.none, .bool false, .ref z, rawInt 0, .none, .none], cls := .type "enumerate" }) s.heap.objs.size z 0 .none := Heap.get?_push_size _ rfl
  exact ⟨⟨_, qe, rfl⟩, h _ qe fun b o e => Heap.get?_push_of_some _ e⟩
end PySem
namespace Vf
open PySem L2 PySem.Spec PyProof.Rows He RZ
/-- enumerate(zip(s, t)), s and t tuples -/
def IteZ (K : PySem.W.Frag) (a b : Addr) : It :=
  ⟨fun i H => ∃ (xs ys : List V) (x y : V), SqT K H a xs ∧ SqT K H b ys ∧ xs[i]? = some x ∧ ys[i]? = some y,
   fun i H v H' => ∃ Pp T x y, v = .ref T ∧ H Pp = none ∧ upd H Pp (.tup [x, y]) T = none ∧ H' = upd (upd H Pp (.tup [x, y])) T (.tup [.int (i : Nat), .ref Pp]) ∧ (∀ xs, SqT K H a xs → xs[i]? = some x) ∧ ∀ ys, SqT K H b ys → ys[i]? = some y,
   fun i H => ∃ xs ys : List V, SqT K H a xs ∧ SqT K H b ys ∧ (xs.length ≤ i ∨ ys.length ≤ i)⟩
structure EzAt (a b e z TI TO i1 i2 : Addr) (i : Nat) (h : Heap) : Prop where
  e : ∃ prev, IsEnum h e z (i : Int) prev
  z : ∃ own f, ZSt h z TI TO own f ∧ OwnOk own
  p : IsPair h TI (.ref i1) (.ref i2)
  o : ∃ c d, IsPair h TO c d
  t1 : h.IsTupleIter i1 a i
  t2 : h.IsTupleIter i2 b i
theorem turn_enumZ {P : Program} {w : World} {K : PySem.W.Frag} {elts : List Expr} {kk : Nat} {tpos : Pos} {a b e z TI TO i1 i2 : Addr} (D : ZipApart z TI TO i1 i2 a b) (n1 : e ≠ z) (n2 : e ≠ TO) (n3 : e ≠ i1) (n4 : e ≠ i2) (n5 : e ≠ TI) :
    Turn P w K (.Tuple elts kk tpos) (IteZ K a b) [e, z, TI, TO, i1, i2] e (EzAt a b e z TI TO i1 i2) where
  mem := by simp
  obj := fun i h here c hc => by
    obtain ⟨⟨prev, he⟩, ⟨own, f, hz, _⟩, hp, ⟨c', d', ho⟩, ⟨o1, e1, _, d1⟩, ⟨o2, e2, _, d2⟩⟩ := here
    have e' : c = e ∨ c = z ∨ c = TI ∨ c = TO ∨ c = i1 ∨ c = i2 := by simpa using hc
    rcases e' with q | q | q | q | q | q
    · rw [q]; exact ⟨_, he, fun v q => nomatch q⟩
    · rw [q]; exact ⟨_, hz, fun v q => nomatch q⟩
    · rw [q]; exact ⟨_, hp, fun v q => nomatch q⟩
    · rw [q]; exact ⟨_, ho, fun v q => nomatch q⟩
    · rw [q]; exact ⟨o1, e1, fun v q => by rw [d1] at q; cases q⟩
    · rw [q]; exact ⟨o2, e2, fun v q => by rw [d2] at q; cases q⟩
  keep := fun i h h' here k => by
    obtain ⟨⟨prev, he⟩, ⟨own, f, hz, oo⟩, hp, ⟨c', d', ho⟩, h1, h2⟩ := here
    exact ⟨⟨prev, k e (by simp) _ he⟩, ⟨own, f, k z (by simp) _ hz, oo⟩, k TI (by simp) _ hp, ⟨c', d', k TO (by simp) _ ho⟩, h1.at fun o q => k i1 (by simp) o q, h2.at fun o q => k i2 (by simp) o q⟩
  item := by
    intro X hP hw hK wc i pins s σ H E I fp here got
    subst hP hw hK
    obtain ⟨⟨prev, he⟩, ⟨own, f, hz, oo⟩, hp, ⟨c', d', ho⟩, h1, h2⟩ := here
    obtain ⟨xs, ys, x, y, qx, qy, hx, hy⟩ := got
    obtain ⟨its, rv, p1, _⟩ := I.tuple qx
    obtain ⟨its2, rv2, p2, _⟩ := I.tuple qy
    obtain ⟨u, hu, ru⟩ := rv.get hx
    obtain ⟨u2, hu2, ru2⟩ := rv2.get hy
    have el : e < s.heap.objs.size := Heap.lt_size he
    have small : ∀ c ∈ [e, z, TI, TO, i1, i2], c < s.heap.objs.size := fun c hc => by
      have e' : c = e ∨ c = z ∨ c = TI ∨ c = TO ∨ c = i1 ∨ c = i2 := by simpa using hc
      rcases e' with q | q | q | q | q | q
      · rw [q]; exact el
      · rw [q]; exact Heap.lt_size hz
      · rw [q]; exact Heap.lt_size hp
      · rw [q]; exact Heap.lt_size ho
      · rw [q]; obtain ⟨_, e1, _⟩ := h1; exact Heap.lt_size e1
      · rw [q]; obtain ⟨_, e2, _⟩ := h2; exact Heap.lt_size e2
    refine ez_item D he hz oo n1 n2 n3 n4 n5 hp ho h1 h2 p1 p2 (x := u) (y := u2) (by simpa using hu) (by simpa using hu2) fun g g' tk own' f' c2 d2 v pn size keep up en z' oo' po a1 a2 ⟨tt, pT⟩ => ?_
    refine ⟨_, rfl, wpAny_letOwnedTupleGo_enum (s := { s with heap := g', toks := tk }) en fun g2 e2 only => ?_⟩
    have up2 : ∀ c o, c ≠ e → g'.get? c = some o → g2.get? c = some o := fun c o n h => (only.2 c n).trans h
    have I1 : Inv X pins σ (upd H s.heap.objs.size (.tup [x, y])) { s with heap := g, toks := s.toks } :=
      I.turnedNew (ch := [e, z, TI, TO, i1, i2]) (fun c o hb q => keep c o (fun q' => hb (by simp [q'])) (fun q' => hb (by simp [q'])) (fun q' => hb (by simp [q'])) (fun q' => hb (by simp [q'])) q) fp (Nat.le_refl _)
        ⟨by show 2 ≤ sizeLine; decide, [u, u2], .cons ru (.cons ru2 .nil), ⟨_, pn, rfl, _, rfl⟩⟩
    have fp1 : ∀ c ∈ [e, z, TI, TO, i1, i2], FpOk X pins (upd H s.heap.objs.size (.tup [x, y])) c := fun c hc => ⟨by rw [upd_ne (Nat.ne_of_lt (small c hc))]; exact (fp c hc).1, (fp c hc).2⟩
    have hT : upd H s.heap.objs.size (.tup [x, y]) (s.heap.objs.size + 1) = none := I1.hok.fresh (by show g.objs.size ≤ _; rw [size]; exact Nat.le_refl _)
    have pT2 : IsPair g2 (s.heap.objs.size + 1) (.int i tt) (.ref s.heap.objs.size) := up2 _ _ (Nat.ne_of_gt (Nat.lt_succ_of_lt el)) pT
    have I2 : Inv X pins σ (upd (upd H s.heap.objs.size (.tup [x, y])) (s.heap.objs.size + 1) (.tup [.int (i : Nat), .ref s.heap.objs.size])) { s with heap := g2, toks := tk } :=
      I1.turnedNew (t' := tk) (ch := [e]) (fun c o hb q => up2 c o (fun q' => hb (by simp [q'])) (up c o (fun q' => hb (by simp [q'])) q)) (fun c hc => fp1 c (by rw [List.mem_singleton.mp hc]; simp)) (by show g.objs.size ≤ _; rw [size]; exact Nat.le_refl _)
        ⟨by show 2 ≤ sizeLine; decide, [.int i tt, .ref s.heap.objs.size], .cons ⟨_, rfl⟩ (.cons rfl .nil), ⟨_, pT2, rfl, _, rfl⟩⟩
    refine ⟨.ref (s.heap.objs.size + 1), _, I2, rfl, ⟨s.heap.objs.size, _, x, y, rfl, I.hok.fresh (Nat.le_refl _), hT, rfl, fun l hl => by rw [I.tuple_inj hl qx]; exact hx, fun l hl => by rw [I.tuple_inj hl qy]; exact hy⟩, ⟨⟨v, ?_⟩, ⟨own', f', up2 _ _ (Ne.symm n1) z', oo'⟩, up2 _ _ (Ne.symm n5) (up _ _ (Ne.symm n5) (keep _ _ D.TIz D.TITO D.TIi1 D.TIi2 hp)), ⟨c2, d2, up2 _ _ (Ne.symm n2) po⟩, a1.at fun o q => up2 _ o (Ne.symm n3) q, a2.at fun o q => up2 _ o (Ne.symm n4) q⟩, fun c hc => ?_⟩
    · have up1 : ((i + 1 : Nat) : Int) = (i : Int) + 1 := by omega
      rw [up1]; exact e2
    · have lt := small c hc
      rw [upd_ne (Nat.ne_of_lt (Nat.lt_succ_of_lt lt)), upd_ne (Nat.ne_of_lt lt)]
      exact (fp c hc).1
  done := by
    intro X hP hw hK wc i pins s σ H E I fp here got
    subst hP hw hK
    obtain ⟨⟨prev, he⟩, ⟨own, f, hz, oo⟩, hp, ⟨c', d', ho⟩, h1, h2⟩ := here
    obtain ⟨xs, ys, qx, qy, ends⟩ := got
    obtain ⟨its, rv, p1, _⟩ := I.tuple qx
    obtain ⟨its2, rv2, p2, _⟩ := I.tuple qy
    have l1 := rv.length
    have l2 := rv2.length
    have en : its.toArray[i]? = none ∨ its2.toArray[i]? = none := by
      rcases ends with q | q
      · exact .inl (by simp; omega)
      · exact .inr (by simp; omega)
    exact ez_end (I.ok.hd wc) D he hz oo hp ho h1 h2 p1 p2 en fun g keep => ⟨rfl, I.turnedL (t' := s.toks) (ch := [e, z, TI, TO, i1, i2]) (fun c o hb q =>
      keep c o (fun q' => hb (by simp [q'])) (fun q' => hb (by simp [q'])) (fun q' => hb (by simp [q'])) (fun q' => hb (by simp [q'])) q) fp⟩
  self := fun A i s Q E here h => let ⟨_, he⟩ := here.e; wpAny_pyIter_enum he h
def iEnumZ (K : PySem.W.Frag) (ta : TA) : TI := fun σ H R => ta σ H fun vs H1 => ∃ a b xs ys, vs = [.ref a, .ref b] ∧ SqT K H1 a xs ∧ SqT K H1 b ys ∧ R (IteZ K a b) H1
theorem pi_enumZ {X : Cx} {e e2 : Expr} {ta : TA} {p p2 pos pos2 tpos : Pos} {elts : List Expr} {kk : Nat} (g1 : Gl X "enumerate") (m1 : X.mg "enumerate" = none) (g2 : Gl X "zip") (m2 : X.mg "zip" = none) (ha : PA X [e, e2] ta)
    (hs : starEach [e, e2] X.env = (false, eval e X.env) :: starEach [e2] X.env := by rfl) (hpl : (backTo pos2 (starEach [e2] X.env)).any (·.1) = false := by rfl)
    (hs1 : starEach [Expr.Call (.Name "zip" p2) [e, e2] [] pos2] X.env = [(false, eval (.Call (.Name "zip" p2) [e, e2] [] pos2) X.env)] := by rfl) :
    PI X (.Tuple elts kk tpos) (.Call (.Name "enumerate" p) [.Call (.Name "zip" p2) [e, e2] [] pos2] [] pos) (iEnumZ X.K ta) := by
  refine ⟨fun pins s σ H R I h => ?_⟩
  refine Call_ (ld_blt I g1 m1 boot_enumerate (PyProof.Rows.callWith_type1 ?_ hs1 rfl))
  rw [hs1]
  show wpAny _ _ (spliced [(false, eval (.Call (.Name "zip" p2) [e, e2] [] pos2) X.env)]) _ _ s
  refine Calls.spliced_cons ?_
  refine Call_ (ld_blt I g2 m2 PyProof.Rows.boot_zip (PyProof.Rows.callWith_type1 (thn (ha.run pos2 pins s σ H _ I h) fun us s1 ⟨vs, H1, I1, r1, q1⟩ => ?_) hs hpl))
  obtain ⟨a, b, xs, ys, ex, qx, qy, q⟩ := q1
  subst ex
  cases r1 with
  | cons r rr =>
    cases rr with
    | cons r' rr =>
      cases rr
      cases r
      cases r'
      obtain ⟨its, rv, p1, _⟩ := I1.tuple qx
      obtain ⟨its2, rv2, p2', _⟩ := I1.tuple qy
      obtain ⟨o1, ho1, _⟩ := id p1
      obtain ⟨o2, ho2, _⟩ := id p2'
      refine call_zipT (show s1.heap.IsTuple a its.toArray from p1) (show s1.heap.IsTuple b its2.toArray from p2') fun g hz hTI hTO t1 t2 hsz hk => ?_
      refine Calls.spliced_nil ?_
      refine call_enumerate_zip (s := { s1 with heap := g }) hz fun g2 he hk2 => wpAny_pyIter_enum he ?_
      have I2 : Inv X pins σ H1 { s1 with heap := g2 } := I1.kept (t' := s1.toks) fun c o q => hk2 c o (hk c o q)
      have above : ∀ c, s1.heap.objs.size ≤ c → FpOk X pins H1 c := fun c hle => I1.fpOk hle (I1.hok.fresh hle)
      dsimp only at he hk2
      rw [hsz] at he ⊢
      refine ⟨s1.heap.objs.size + 5, [s1.heap.objs.size + 5, s1.heap.objs.size + 4, s1.heap.objs.size + 2, s1.heap.objs.size + 3, s1.heap.objs.size, s1.heap.objs.size + 1], _, _, H1, rfl, I2,
        turn_enumZ (PySem.W.ktu_apart s1.heap.objs.size a b (Heap.lt_size ho1) (Heap.lt_size ho2)) (by intro z; exact absurd (Nat.add_left_cancel z) (by decide)) (by intro z; exact absurd (Nat.add_left_cancel z) (by decide)) (Nat.ne_of_gt (Nat.lt_add_of_pos_right (by decide))) (by intro z; exact absurd (Nat.add_left_cancel z) (by decide)) (by intro z; exact absurd (Nat.add_left_cancel z) (by decide)),
        ⟨⟨.none, he⟩, ⟨.none, false, hk2 _ _ hz, .inl rfl⟩, hk2 _ _ hTI, ⟨_, _, hk2 _ _ hTO⟩, t1.at fun o q => hk2 _ o q, t2.at fun o q => hk2 _ o q⟩, fun c hc => ?_, q⟩
      have e' : c = s1.heap.objs.size + 5 ∨ c = s1.heap.objs.size + 4 ∨ c = s1.heap.objs.size + 2 ∨ c = s1.heap.objs.size + 3 ∨ c = s1.heap.objs.size ∨ c = s1.heap.objs.size + 1 := by simpa using hc
      rcases e' with z | z | z | z | z | z <;> rw [z] <;> exact above _ (by first | exact Nat.le_add_right _ _ | exact Nat.le_refl _)
/-- the turns of such a loop -/
theorem for_enumZ {K : PySem.W.Frag} {a b : Addr} {xs ys : List V} {g : TG} {tb : TS} {D : Ends} {σ : L2.St} {H : Hp} (hl : xs.length = ys.length) (Pv : Nat → L2.St → Hp → Prop) (h0 : Pv 0 σ H) (hq : ∀ i σ H, Pv i σ H → SqT K H a xs ∧ SqT K H b ys)
    (hs : ∀ (i : Nat) (x y : V) (Pp T : Addr) (σ : L2.St) (H : Hp), xs[i]? = some x → ys[i]? = some y → Pv i σ H → H Pp = none → upd H Pp (.tup [x, y]) T = none →
      g (.ref T) σ (upd (upd H Pp (.tup [x, y])) T (.tup [.int (i : Nat), .ref Pp])) fun σ2 H2 => tb { D with nx := Pv (i + 1), ct := Pv (i + 1), bk := D.nx } σ2 H2)
    (hd : ∀ σ H, Pv xs.length σ H → D.nx σ H) : ForB (IteZ K a b) g tb D σ H := by
  refine ⟨fun i m σ H => m = xs.length - i ∧ i ≤ xs.length ∧ Pv i σ H, ⟨xs.length, rfl, Nat.zero_le _, h0⟩, ?_⟩
  rintro i m σ H ⟨rfl, hi, p⟩
  obtain ⟨qx, qy⟩ := hq i σ H p
  by_cases lt : i < xs.length
  · have hx : xs[i]? = some xs[i] := List.getElem?_eq_getElem lt
    have hy : ys[i]? = some (ys[i]'(by omega)) := List.getElem?_eq_getElem (by omega)
    refine .inr ⟨⟨xs, ys, _, _, qx, qy, hx, hy⟩, Pv (i + 1), fun σ' H' p' => ⟨xs.length - (i + 1), by omega, rfl, lt, p'⟩, fun v H' y => ?_⟩
    obtain ⟨Pp, T, x', y', rfl, hP, hT, rfl, f1, f2⟩ := y
    exact hs i x' y' Pp T σ H (f1 xs qx) (f2 ys qy) p hP hT
  · have e : i = xs.length := by omega
    subst e
    exact .inl ⟨⟨xs, ys, qx, qy, .inl (Nat.le_refl _)⟩, hd σ H p⟩
end Vf

namespace Vf
open PySem L2 PySem.Spec PyProof.Rows He RZ
/-! max(xs): xs a list of references to data of one form -/
structure MdK (K : PySem.W.Frag) (H : Hp) (a : Addr) (ps : List Addr) (kd : Nat → PyData) : Prop where
  lst : SqL K H a (ps.map V.ref)
  dp : ∀ i p, ps[i]? = some p → Dp K H (.ref p) (kd i)
  alk : ∀ i j, i < ps.length → j < ps.length → PySem.W.alike (kd i) (kd j) = true
  nn : ∀ i, i < ps.length → kd i ≠ .none
  dep : ∀ i, i < ps.length → (kd i).depth ≤ 60
section
variable {X : Cx} {a : Addr} {pins : List (Addr × Obj)} {σ : L2.St} {ps : List Addr} {kd : Nat → PyData} {H : Hp} {S it : Addr} {R : Result → Shared → Prop}
theorem md_loop (hc : X.calm = true) (hu : X.A.units + 64 < cLine) (M : MdK X.K H a ps kd) (fS : FpOk X pins H S) (fI : FpOk X pins H it) (ne : S ≠ it) :
    ∀ (m j : Nat) (s : Shared) (p : Addr) (c : Nat), ps.length - (j + 1) = m → j + 1 ≤ ps.length → Inv X pins σ H s → ps[argBest (mxB kd) j]? = some p → s.heap.get? S = some (mxS (.ref p) (.ref p) c) → s.heap.IsListIter it a (j + 1) →
    (∀ (s' : Shared) (p : Addr), Inv X pins σ H s' → ps[argBest (mxB kd) (ps.length - 1)]? = some p → R (.ok (.ret (.ref p))) s') → codeAny (model X.prog X.w) X.A (.builtin "max.loop" ⟨[.ref it, .none, .ref S], []⟩) R s := by
  have hname : (toString "max" ++ toString ".loop" : String) = "max.loop" := by decide
  intro m
  induction m with
  | zero =>
    intro j s p c hm hj I hp hS st hR
    obtain ⟨its, rv, pl, hz⟩ := I.list M.lst
    have hl := rv.length
    rw [List.length_map] at hl
    refine codeAny_builtin PySem.F.entry_max_loop ?_
    rw [Around.under_plainId PySem.F.plain_max_loop _]
    show wpAny _ X.A.in1 (seqItems? (.ref S) >>= _) _ _ s
    refine wpAny_bind (wpAny_seqItems hS rfl ?_)
    refine wpAny_bind (wpAny_tryCatch ?_)
    refine wpAny_pyNext_list_end (I.ok.hd hc) st pl.isList (by simp; omega) fun h' eb => ?_
    have I1 : Inv X pins σ H { s with heap := h' } := I.turned (t' := s.toks) (fun b o hb e => eb b o hb e) fI.1 fI.2.1 fI.2.2.2.1 fI.2.2.2.2.1 fI.2.2.2.2.2
    have hS' : ({ s with heap := h' } : Shared).heap.get? S = some (mxS (.ref p) (.ref p) c) := eb S _ ne hS
    show wpAny _ X.A.in1 (updateSeq S (fun _ => #[]) >>= _) _ _ _
    refine wpAny_bind (wpAny_updateSeq hS' rfl (wpAny_bind (wpAny_letGo (wpAny_pure ?_))))
    have I2 := I1.turned (it := S) (t' := s.toks) (h' := h'.update S (Obj.mapSeq fun _ => #[])) (fun b o hb e => (Heap.get?_update_other _ _ (Ne.symm hb)).trans e) fS.1 fS.2.1 fS.2.2.2.1 fS.2.2.2.2.1 fS.2.2.2.2.2
    refine hR _ p I2 ?_
    rw [show ps.length - 1 = j from by omega]
    exact hp
  | succ m ih =>
    intro j s p c hm hj I hp hS st hR
    obtain ⟨its, rv, pl, hz⟩ := I.list M.lst
    have hlt : j + 1 < ps.length := by omega
    have hx : ps[j + 1]? = some ps[j + 1] := List.getElem?_eq_getElem hlt
    obtain ⟨u, hu1, ru⟩ := rv.get (i := j + 1) (x := .ref ps[j + 1]) (by rw [List.getElem?_map, hx]; rfl)
    cases ru
    generalize ps[j + 1] = q at hx hu1
    refine codeAny_builtin PySem.F.entry_max_loop ?_
    rw [Around.under_plainId PySem.F.plain_max_loop _]
    show wpAny _ X.A.in1 (seqItems? (.ref S) >>= _) _ _ s
    refine wpAny_bind (wpAny_seqItems hS rfl ?_)
    refine wpAny_bind (wpAny_tryCatch ?_)
    refine wpAny_pyNext_list_item st pl.isList (x := .ref q) (by simpa using hu1) fun h' st' sb => ?_
    have I1 : Inv X pins σ H { s with heap := h' } := I.turned (t' := s.toks) (fun b o hb e => (sb.2 b hb).trans e) fI.1 fI.2.1 fI.2.2.2.1 fI.2.2.2.2.1 fI.2.2.2.2.2
    have hS' : ({ s with heap := h' } : Shared).heap.get? S = some (mxS (.ref p) (.ref p) c) := (sb.2 S ne).trans hS
    have hbl := argBest_lt (mxB kd) j
    obtain ⟨as1, r1⟩ := Dp.reads I1 _ _ _ (M.dp _ _ hx) rfl
    obtain ⟨as2, r2⟩ := Dp.reads I1 _ _ _ (M.dp _ _ hp) rfl
    refine wpAny_bind (wpAny_pure ?_)
    refine wpAny_bind (wpAny_tryCatch (wpAny_holding (wpAny_bind (PySem.W.gt_data r1 r2 (M.alk _ _ hlt (by omega)) (M.nn _ hlt) (by
      have h1 := Nat.min_le_left (kd (j + 1)).depth (kd (argBest (mxB kd) j)).depth
      have h2 := M.dep _ hlt
      show X.A.units + 1 + _ < _
      omega) ?_))))
    refine wpAny_bind (wpAny_holding (wpAny_truthy_bool ?_))
    refine wpAny_bind (wpAny_letGo (wpAny_pure ?_))
    have eB : argBest (mxB kd) (j + 1) = if PySem.W.dataLt (kd (argBest (mxB kd) j)) (kd (j + 1)) = true then j + 1 else argBest (mxB kd) j := rfl
    cases hcmp : PySem.W.dataLt (kd (argBest (mxB kd) j)) (kd (j + 1)) with
    | true =>
      rw [hcmp, if_pos rfl] at eB
      simp only [if_true]
      refine wpAny_bind (wpAny_updateSeq hS' rfl (wpAny_bind (wpAny_letGo ?_)))
      rw [hname]
      refine wpAny_pure ⟨plainId_quiet PySem.F.plain_max_loop _, ih (j + 1) _ q c (by omega) hlt ?_ (by rw [eB]; exact hx) ?_ (st'.at fun o e => ?_) hR⟩
      · exact I1.turned (it := S) (t' := s.toks) (fun b o hb e => (Heap.get?_update_other _ _ (Ne.symm hb)).trans e) fS.1 fS.2.1 fS.2.2.2.1 fS.2.2.2.2.1 fS.2.2.2.2.2
      · exact Heap.get?_update_self _ hS' rfl
      · exact (Heap.get?_update_other _ _ ne).trans e
    | false =>
      rw [hcmp, if_neg Bool.false_ne_true] at eB
      simp only [Bool.false_eq_true, if_false]
      refine wpAny_bind (wpAny_letGo ?_)
      rw [hname]
      exact wpAny_pure ⟨plainId_quiet PySem.F.plain_max_loop _, ih (j + 1) _ p c (by omega) hlt I1 (by rw [eB]; exact hp) hS' st' hR⟩
/-- the first of the best -/
def rMaxD (K : PySem.W.Frag) : List V → Hp → VK → Prop := fun vs H Q => ∃ (a : Addr) (ps : List Addr) (kd : Nat → PyData), vs = [.ref a] ∧ 0 < ps.length ∧ MdK K H a ps kd ∧ ∀ p, ps[mxI kd ps.length]? = some p → Q (.ref p) H
theorem cr_maxD (hc : X.calm = true) (hu : X.A.units + 64 < cLine) : CallR X (.builtin "max") (rMaxD X.K) := by
  intro pins s σ H vs us Q I r hq
  obtain ⟨a, ps, kd, rfl, hn, M, q⟩ := hq
  obtain rfl := Vals.ref1 r
  have hname : (toString "max" ++ toString ".loop" : String) = "max.loop" := by decide
  refine PyProof.Rows.kmk_tree PySem.F.kind_max PySem.F.plain_max PySem.F.entry_max (by unfold argsOk; kernel_rfl) ?_
  refine wpAny_bind (wpAny_of_eq (a := [none, none]) (by rfl) ?_)
  refine wpAny_bind (wpAny_pure ?_)
  obtain ⟨its, rv, pl, hz⟩ := I.list M.lst
  refine wpAny_bind (wpAny_pyIter_list pl.isList ?_)
  have I1 : Inv X pins σ H { s with heap := s.heap.push { cls := .type "list_iterator", data := .fields #[.ref a, .int 0 0] } } := I.kept (t' := s.toks) fun b o e => Heap.get?_push_of_some _ e
  have fI : FpOk X pins H s.heap.objs.size := I.fpOk (Nat.le_refl _) (I.hok.fresh (Nat.le_refl _))
  have st0 : ({ s with heap := s.heap.push { cls := .type "list_iterator", data := .fields #[.ref a, .int 0 0] } } : Shared).heap.IsListIter s.heap.objs.size a 0 := ⟨_, Heap.get?_push_size _ rfl, rfl, rfl⟩
  generalize hs1 : ({ s with heap := s.heap.push { cls := .type "list_iterator", data := .fields #[.ref a, .int 0 0] } } : Shared) = s1 at I1 st0 ⊢
  have sz1 : s1.heap.objs.size = s.heap.objs.size + 1 := by rw [← hs1]; exact size_push' ..
  have fS : FpOk X pins H s1.heap.objs.size := I1.fpOk (Nat.le_refl _) (I1.hok.fresh (Nat.le_refl _))
  refine wpAny_bind (wpAny_newObj_type ?_)
  rw [hname]
  have I2 : Inv X pins σ H { s1 with heap := s1.heap.push { cls := .type "list", data := .seq #[] 0 } } := I1.kept (t' := s1.toks) fun b o e => Heap.get?_push_of_some _ e
  have hS : (s1.heap.push { cls := .type "list", data := .seq #[] 0 }).get? s1.heap.objs.size = some { cls := .type "list", data := .seq #[] 0 } := Heap.get?_push_size _ rfl
  have st1 := st0.at (h' := s1.heap.push { cls := .type "list", data := .seq #[] 0 }) fun o e => Heap.get?_push_of_some _ e
  have ne : s1.heap.objs.size ≠ s.heap.objs.size := fun z => by rw [sz1] at z; exact absurd z (Nat.succ_ne_self _)
  refine wpAny_pure ⟨plainId_quiet PySem.F.plain_max_loop _, ?_⟩
  generalize hs2 : ({ s1 with heap := s1.heap.push { cls := .type "list", data := .seq #[] 0 } } : Shared) = s2 at I2
  have hS2 : s2.heap.get? s1.heap.objs.size = some { cls := .type "list", data := .seq #[] 0 } := by rw [← hs2]; exact hS
  have st2 : s2.heap.IsListIter s.heap.objs.size a 0 := by rw [← hs2]; exact st1
  obtain ⟨its2, rv2, pl2, hz2⟩ := I2.list M.lst
  have hx : ps[0]? = some ps[0] := List.getElem?_eq_getElem hn
  obtain ⟨u, hu1, ru⟩ := rv2.get (i := 0) (x := .ref ps[0]) (by rw [List.getElem?_map, hx]; rfl)
  cases ru
  generalize ps[0] = b0 at hx hu1
  refine codeAny_builtin PySem.F.entry_max_loop ?_
  rw [Around.under_plainId PySem.F.plain_max_loop _]
  show wpAny _ X.A.in1 (seqItems? (.ref s1.heap.objs.size) >>= _) _ _ s2
  refine wpAny_bind (wpAny_seqItems hS2 rfl ?_)
  refine wpAny_bind (wpAny_tryCatch ?_)
  refine wpAny_pyNext_list_item st2 pl2.isList (x := .ref b0) (by simpa using hu1) fun h' st' sb => ?_
  have I3 : Inv X pins σ H { s2 with heap := h' } := I2.turned (t' := s2.toks) (fun b o hb e => (sb.2 b hb).trans e) fI.1 fI.2.1 fI.2.2.2.1 fI.2.2.2.2.1 fI.2.2.2.2.2
  have hS3 : ({ s2 with heap := h' } : Shared).heap.get? s1.heap.objs.size = some { cls := .type "list", data := .seq #[] 0 } := (sb.2 _ ne).trans hS2
  refine wpAny_bind (wpAny_pure ?_)
  refine wpAny_bind (wpAny_updateSeq hS3 rfl ?_)
  rw [hname]
  refine wpAny_pure ⟨plainId_quiet PySem.F.plain_max_loop _, md_loop hc hu M fS fI ne _ 0 _ b0 1 rfl hn ?_ hx ?_ (st'.at fun o e => ?_) fun s' p I' hp' => ⟨.ref p, H, I', rfl, q p hp'⟩⟩
  · exact I3.turned (it := s1.heap.objs.size) (t' := s2.toks) (fun b o hb e => (Heap.get?_update_other _ _ (Ne.symm hb)).trans e) fS.1 fS.2.1 fS.2.2.2.1 fS.2.2.2.2.1 fS.2.2.2.2.2
  · exact Heap.get?_update_self _ hS3 rfl
  · exact (Heap.get?_update_other _ _ ne).trans e
end
end Vf

namespace Vf
open PySem L2 PySem.Spec PyProof.Rows He RZ
/-! zip(xs, t), a list and a tuple -/
def ItzLT (K : PySem.W.Frag) (a b : Addr) : It :=
  ⟨fun i H => ∃ (xs ys : List V) (x y : V), SqL K H a xs ∧ SqT K H b ys ∧ xs[i]? = some x ∧ ys[i]? = some y,
   fun i H v H' => ∃ T x y, v = .ref T ∧ H T = none ∧ H' = upd H T (.tup [x, y]) ∧ (∀ xs, SqL K H a xs → xs[i]? = some x) ∧ ∀ ys, SqT K H b ys → ys[i]? = some y,
   fun i H => ∃ xs ys : List V, SqL K H a xs ∧ SqT K H b ys ∧ (xs.length = i ∨ ys.length = i) ∧ i ≤ xs.length ∧ i ≤ ys.length⟩
structure ZlAt (a b z TI TO i1 i2 : Addr) (i : Nat) (h : Heap) : Prop where
  z : IsZip h z TI TO .none
  p : IsTupOf2 h TI (.ref i1) (.ref i2)
  o : ∃ c d, IsTupOf2 h TO c d
  t1 : h.IsListIter i1 a i
  t2 : h.IsTupleIter i2 b i
theorem turn_zipLT {P : Program} {w : World} {K : PySem.W.Frag} {elts : List Expr} {kk : Nat} {tpos : Pos} {a b z TI TO i1 i2 : Addr} (D : ZipSep2 z TI TO i1 i2 [i1, a] [i2, b]) (na : a ≠ i1) (nb : b ≠ i2) :
    Turn P w K (.Tuple elts kk tpos) (ItzLT K a b) [z, TI, TO, i1, i2] z (ZlAt a b z TI TO i1 i2) where
  mem := by simp
  obj := fun i h here c hc => by
    obtain ⟨hz, hp, ⟨c', d', ho⟩, ⟨o1, e1, _, d1⟩, ⟨o2, e2, _, d2⟩⟩ := here
    have e' : c = z ∨ c = TI ∨ c = TO ∨ c = i1 ∨ c = i2 := by simpa using hc
    rcases e' with q | q | q | q | q
    · rw [q]; exact ⟨_, hz, fun v q => nomatch q⟩
    · rw [q]; exact ⟨_, hp, fun v q => nomatch q⟩
    · rw [q]; exact ⟨_, ho, fun v q => nomatch q⟩
    · rw [q]; exact ⟨o1, e1, fun v q => by rw [d1] at q; cases q⟩
    · rw [q]; exact ⟨o2, e2, fun v q => by rw [d2] at q; cases q⟩
  keep := fun i h h' here k => by
    obtain ⟨hz, hp, ⟨c', d', ho⟩, h1, h2⟩ := here
    exact ⟨k z (by simp) _ hz, k TI (by simp) _ hp, ⟨c', d', k TO (by simp) _ ho⟩, h1.at fun o q => k i1 (by simp) o q, h2.at fun o q => k i2 (by simp) o q⟩
  item := by
    intro X hP hw hK wc i pins s σ H E I fp here got
    subst hP hw hK
    obtain ⟨hz, hp, ⟨c', d', ho⟩, h1, h2⟩ := here
    obtain ⟨xs, ys, x, y, qx, qy, hx, hy⟩ := got
    obtain ⟨its, rv, p1, _⟩ := I.list qx
    obtain ⟨its2, rv2, p2, _⟩ := I.tuple qy
    obtain ⟨u, hu, ru⟩ := rv.get hx
    obtain ⟨u2, hu2, ru2⟩ := rv2.get hy
    have h0 : X.A.in1.handled = none := I.ok.hd wc
    have zl : z < s.heap.objs.size := Heap.lt_size hz
    have lt1 : i < its.toArray.size := by have := (List.getElem?_eq_some_iff.mp hu).1; simpa using this
    have lt2 : i < its2.toArray.size := by have := (List.getElem?_eq_some_iff.mp hu2).1; simpa using this
    refine wpAny_pyNext_zipD2_item D (Draws.list (A := X.A.in1) h0 i1 a na its.toArray) (Draws.tuple (A := X.A.in1) h0 i2 b nb its2.toArray) hz hp ho ⟨h1, p1.isList⟩ ⟨h2, p2⟩ lt1 lt2 fun x1 x2 g tk y1 y2 z' o' s1 s2 pT size keep => ?_
    have e1 : x1 = u := by
      have q1 : its[i]? = some x1 := by simpa using y1
      exact Option.some.inj (q1.symm.trans hu)
    have e2 : x2 = u2 := by
      have q1 : its2[i]? = some x2 := by simpa using y2
      exact Option.some.inj (q1.symm.trans hu2)
    subst e1 e2
    refine ⟨_, rfl, wpAny_letOwnedTupleGo_zip (s := { s with heap := g, toks := tk }) z' fun g2 z2 only => ?_⟩
    have up : ∀ c o, c ≠ z → g.get? c = some o → g2.get? c = some o := fun c o n h => (only.2 c n).trans h
    have pT2 : IsTupOf2 g2 s.heap.objs.size x1 x2 := up _ _ (Nat.ne_of_gt zl) pT
    have I1 : Inv X pins σ (upd H s.heap.objs.size (.tup [x, y])) { s with heap := g2, toks := tk } :=
      I.turnedNew (ch := [z, TI, TO, i1, i2]) (fun c o hb q => up c o (fun q' => hb (by simp [q'])) (keep c o (fun q' => hb (by simp [q'])) (fun q' => hb (by simp [q'])) (fun q' => hb (by simp [q'])) (fun q' => hb (by simp [q'])) q)) fp (Nat.le_refl _)
        ⟨by show 2 ≤ sizeLine; decide, [x1, x2], .cons ru (.cons ru2 .nil), ⟨_, pT2, rfl, _, rfl⟩⟩
    refine ⟨.ref s.heap.objs.size, _, I1, rfl, ⟨_, x, y, rfl, I.hok.fresh (Nat.le_refl _), rfl, fun l hl => by rw [I.list_inj hl qx]; exact hx, fun l hl => by rw [I.tuple_inj hl qy]; exact hy⟩, ⟨z2, up _ _ D.TIz (keep _ _ D.TIz D.TITO D.TIi1 D.TIi2 hp), ⟨x1, x2, up _ _ D.TOz o'⟩, s1.1.at fun o q => up _ o D.zi1.symm q, s2.1.at fun o q => up _ o D.zi2.symm q⟩, fun c hcm => ?_⟩
    have lt : c < s.heap.objs.size := by
      have e' : c = z ∨ c = TI ∨ c = TO ∨ c = i1 ∨ c = i2 := by simpa using hcm
      rcases e' with q | q | q | q | q
      · rw [q]; exact zl
      · rw [q]; exact Heap.lt_size hp
      · rw [q]; exact Heap.lt_size ho
      · rw [q]; obtain ⟨_, e1, _⟩ := h1; exact Heap.lt_size e1
      · rw [q]; obtain ⟨_, e2, _⟩ := h2; exact Heap.lt_size e2
    rw [upd_ne (Nat.ne_of_lt lt)]
    exact (fp c hcm).1
  done := by
    intro X hP hw hK wc i pins s σ H E I fp here got
    subst hP hw hK
    obtain ⟨hz, hp, ⟨c', d', ho⟩, h1, h2⟩ := here
    obtain ⟨xs, ys, qx, qy, en, le1, le2⟩ := got
    obtain ⟨its, rv, p1, _⟩ := I.list qx
    obtain ⟨its2, rv2, p2, _⟩ := I.tuple qy
    have l1 := rv.length
    have l2 := rv2.length
    have h0 : X.A.in1.handled = none := I.ok.hd wc
    refine wpAny_pyNext_zipD2_end D (Draws.list (A := X.A.in1) h0 i1 a na its.toArray) (Draws.tuple (A := X.A.in1) h0 i2 b nb its2.toArray) hz hp ho ⟨h1, p1.isList⟩ ⟨h2, p2⟩ (by simp; omega) (by simp; omega) (by simp; omega) fun g tk keep => ⟨rfl, ?_⟩
    exact I.turnedL (t' := tk) (ch := [z, TI, TO, i1, i2]) (fun c o hb q => keep c o (fun q' => hb (by simp [q'])) (fun q' => hb (by simp [q'])) (fun q' => hb (by simp [q'])) (fun q' => hb (by simp [q'])) q) fp
  self := fun A i s Q E here h => wpAny_pyIter_zip here.z h
def iZipLT (K : PySem.W.Frag) (ta : TA) : TI := fun σ H R => ta σ H fun vs H1 => ∃ a b xs ys, vs = [.ref a, .ref b] ∧ SqL K H1 a xs ∧ SqT K H1 b ys ∧ R (ItzLT K a b) H1
theorem pi_zipLT {X : Cx} {e e2 : Expr} {ta : TA} {p pos tpos : Pos} {elts : List Expr} {kk : Nat} (hg : Gl X "zip") (hm : X.mg "zip" = none) (ha : PA X [e, e2] ta)
    (hs : starEach [e, e2] X.env = (false, eval e X.env) :: starEach [e2] X.env := by rfl) (hpl : (backTo pos (starEach [e2] X.env)).any (·.1) = false := by rfl) :
    PI X (.Tuple elts kk tpos) (.Call (.Name "zip" p) [e, e2] [] pos) (iZipLT X.K ta) := by
  refine ⟨fun pins s σ H R I h => ?_⟩
  refine Call_ (ld_blt I hg hm PyProof.Rows.boot_zip (PyProof.Rows.callWith_type1 (thn (ha.run pos pins s σ H _ I h) fun us s1 ⟨vs, H1, I1, r1, q1⟩ => ?_) hs hpl))
  obtain ⟨a, b, xs, ys, ex, qx, qy, q⟩ := q1
  subst ex
  cases r1 with
  | cons r rr =>
    cases rr with
    | cons r' rr =>
      cases rr
      cases r
      cases r'
      obtain ⟨its, rv, p1, _⟩ := I1.list qx
      obtain ⟨its2, rv2, p2, _⟩ := I1.tuple qy
      have la : a < s1.heap.objs.size := p1.lt
      obtain ⟨o2, ho2, _⟩ := id p2
      have lb : b < s1.heap.objs.size := Heap.lt_size ho2
      refine zip_begins2 (begins_list a its.toArray) (begins_tuple b its2.toArray) p1.isList p2 fun g hz hTI hTO g1 g2 size hk => wpAny_pyIter_zip hz ?_
      have I2 : Inv X pins σ H1 { s1 with heap := g } := I1.kept (t' := s1.toks) hk
      refine ⟨s1.heap.objs.size + 4, [s1.heap.objs.size + 4, s1.heap.objs.size + 2, s1.heap.objs.size + 3, s1.heap.objs.size, s1.heap.objs.size + 1], _, _, H1, rfl, I2,
        turn_zipLT (a := a) (b := b) (zip_sep2 (fp1 := [a]) (fp2 := [b]) (fun c hc => by rw [List.mem_singleton.mp hc]; exact la) (fun c hc => by rw [List.mem_singleton.mp hc]; exact lb)) (Nat.ne_of_lt la) (Nat.ne_of_lt (Nat.lt_succ_of_lt lb)),
        ⟨hz, hTI, ⟨_, _, hTO⟩, ⟨_, g1, rfl, rfl⟩, ⟨_, g2, rfl, rfl⟩⟩, fun c hc => ?_, q⟩
      have e' : c = s1.heap.objs.size + 4 ∨ c = s1.heap.objs.size + 2 ∨ c = s1.heap.objs.size + 3 ∨ c = s1.heap.objs.size ∨ c = s1.heap.objs.size + 1 := by simpa using hc
      have above : s1.heap.objs.size ≤ c := by rcases e' with z | z | z | z | z <;> rw [z] <;> first | exact Nat.le_add_right _ _ | exact Nat.le_refl _
      exact I1.fpOk above (I1.hok.fresh above)
theorem walk_zipLT {K : PySem.W.Frag} {a b : Addr} {xs ys : List V} (hl : xs.length = ys.length) : Walk (ItzLT K a b) xs.length (fun H => SqL K H a xs ∧ SqT K H b ys) (YPair (fun i => xs[i]?) (fun i => ys[i]?)) := by
  refine ⟨fun i H hi q => ⟨xs, ys, xs[i], ys[i]'(by omega), q.1, q.2, List.getElem?_eq_getElem hi, List.getElem?_eq_getElem (by omega)⟩, fun H q => ⟨xs, ys, q.1, q.2, .inl rfl, Nat.le_refl _, by omega⟩, fun i H v H' hi q y => ?_⟩
  obtain ⟨T, x, y, g1, g2, g3, g4, g5⟩ := y
  exact ⟨T, x, y, g1, g2, g3, g4 xs q.1, g5 ys q.2⟩
end Vf

namespace Vf
open PySem L2 PySem.Spec PyProof.Rows He RZ
/-! x != y by the class's own __eq__: object's __ne__ asks it and turns the answer -/
def rNeO (K : PySem.W.Frag) (C : Addr) (sp : Sp) (E : XK) : R2 := fun x y H Q => ∃ (a b dx dy : Addr) (fs gs : List (Str × V)), x = .ref a ∧ y = .ref b ∧ H a = some (.ins C dx fs) ∧ H b = some (.ins C dy gs) ∧ sp [x, y] H (fun z H' => ∃ t, z = .bl t ∧ Q (.bl (!t)) H') E
theorem ne_bind (self : Value) : bindSpecial (.builtin "object.__ne__") self = pure (.builtin "object.__ne__", [self]) :=
  (Slot.of (T := "object") (name := "__ne__") (owner := "object") (n := "__ne__") (by rw [typeLookup_type, builtinLookup_eq_fast]; kernel_rfl) (by decide +kernel) (by decide +kernel) (by decide +kernel)
    (.inl (by decide +kernel)) (by rw [isSubtype_type]; kernel_rfl)).bind self
theorem op_neOwn {X : Cx} {C f : Addr} {fd : FuncData} {ps : List Str} {sp : Sp} {n : Nat} (F : FnOk X.prog X.w X.K X.mg X.base CX0 n f fd ps sp)
    (hs : PySem.W.findIn X.K (.ref C) "__eq__" = some (some (.ref f))) (hf : PySem.W.isFn X.K (.ref f) = true) (hb : Binds X.K fd ps [])
    (hn : PySem.W.findIn X.K (.ref C) "__ne__" = some (some (.builtin "object.__ne__"))) (ho : PySem.W.mroIn X.K C (.type "object") = some true) (hr : Room (n + 1) X.A) : OpR X (compareOp .NotEq) (rNeO X.K C sp E0) := by
  intro pins s σ H x y v u Q I rx ry q
  obtain ⟨a, b, dx, dy, fs, gs, rfl, rfl, ha, hy, hsp⟩ := q
  cases rx
  cases ry
  obtain ⟨mA, J, _⟩ := ins_get I.hok ha
  obtain ⟨od, J, _⟩ := J.look
  obtain ⟨mB, J', _⟩ := ins_get I.hok hy
  obtain ⟨od', J', _⟩ := J'.look
  have KI : X.K.In s.heap := I.kIn
  have sub : PySem.W.Looks (model X.prog X.w) s.heap (isInstance (.ref a) (.type "object")) true := J.type.andThen (PySem.W.looks_mroIn KI ho)
  have run : ∀ {Q' : Value → Shared → Prop}, (∀ t s', (∃ H', Inv X pins σ H' s' ∧ Q (.bl (!t)) H') → Q' (.bool t) s') → wpAny (model X.prog X.w) X.A.in1 (call (.ref f) [.ref a, .ref b]) Q' X.xe s := fun {Q'} h =>
    run_in F hb hr.in1 rfl I (vs := [.ref a, .ref b]) (.cons rfl (.cons rfl .nil)) hsp fun w s' ⟨z, H', I', rz, t, ez, hQ⟩ => by
      subst ez
      cases rz
      exact h t s' ⟨H', I', hQ⟩
  have ib : wpAny (model X.prog X.w) X.A (callSpecialIfBound? (.ref a) "__ne__" [.ref b]) (fun r s' => ∃ t, r = some (.bool (!t)) ∧ ∃ H', Inv X pins σ H' s' ∧ Q (.bl (!t)) H') X.xe s := by
    simp only [callSpecialIfBound?, bindSpecialIfBound?]
    refine wpAny_holding (wpAny_bind (wpAny_bind (wpAny_bind (J.type.here ((PySem.W.looks_findIn KI hn).here ?_)))))
    have fin : wpAny (model X.prog X.w) X.A (call (.builtin "object.__ne__") ([.ref a] ++ [.ref b]) >>= fun v => pure (some v)) (fun r s' => ∃ t, r = some (.bool (!t)) ∧ ∃ H', Inv X pins σ H' s' ∧ Q (.bl (!t)) H') X.xe s := by
      refine wpAny_bind ?_
      refine wpAny_call (codeAny_call_builtin (by decide +kernel) PySem.F.cmpEntry_ne (@PySem.W.check_slot (model X.prog X.w) _ _ s "object.__ne__" "object" "__ne__" (.ref a) [.ref b] [] _ PySem.F.cmpKind_ne PySem.F.cmpSplit_ne sub (PySem.F.cmpArgs_ne _ _) ?_))
      unfold Builtin.«object.__ne__»
      refine wpAny_bind (wpAny_of_eq (a := (Value.ref a, [Value.ref b])) (by rfl) ?_)
      dsimp only
      refine wpAny_bind (wpAny_cRoomFor (by have := hr.un; show X.A.units + 1 < _; omega) ?_)
      refine wpAny_bind (PySem.W.ifBound_K KI J hs hf (run fun t s' h => ?_))
      dsimp only
      refine wpAny_bind (wpAny_truthy_bool ?_)
      exact wpAny_pure (wpAny_pure ⟨t, rfl, h⟩)
    refine wpAny_bind (wpAny_askSetting (wpAny_ite ?_))
    split
    · exact wpAny_bind (wpAny_of_eq (ne_bind _) (wpAny_pure (by exact fin)))
    · exact wpAny_tryCatch (wpAny_bind (wpAny_of_eq (ne_bind _) (wpAny_pure (by exact fin))))
  have one : wpAny (model X.prog X.w) X.A (tryCompare (.ref a) "__ne__" (.ref b)) (fun r s' => ∃ t, r = some (.bool (!t)) ∧ ∃ H', Inv X pins σ H' s' ∧ Q (.bl (!t)) H') X.xe s := by
    unfold tryCompare
    refine wpAny_bind (wpAny_mono ib (fun r s' z => ?_) fun _ _ e => e)
    obtain ⟨t, rfl, h⟩ := z
    exact wpAny_pure ⟨t, rfl, h⟩
  show wpAny _ _ (richCompare .NotEq (.ref a) (.ref b)) _ _ s
  unfold richCompare
  simp only [oneThing_ref]
  refine wpAny_holding (wpAny_bind (wpAny_cRoomFor (by have := hr.un; omega) ?_))
  refine wpAny_bind (J.type.here (wpAny_bind (J'.type.here ?_)))
  rw [show (Value.ref C != Value.ref C) = false from by simp]
  simp only [Bool.false_eq_true, if_false]
  refine wpAny_bind (wpAny_pure ?_)
  simp only [Bool.false_eq_true, if_false]
  refine wpAny_bind (wpAny_mono one (fun r s' z => ?_) fun _ _ e => e)
  obtain ⟨t, rfl, H', I', hQ⟩ := z
  exact wpAny_pure ⟨.bl (!t), H', I', rfl, hQ⟩
end Vf
namespace Vf
open PySem L2 PySem.Spec PyProof.Rows He RZ
def neB (x : Str) (K : PySem.W.Frag) : Bool := eqO (PySem.W.findIn K (.ref (ga K x)) "__ne__") (some (some (.builtin "object.__ne__"))) && (PySem.W.mroIn K (ga K x) (.type "object") == some true)
structure NeC (K : PySem.W.Frag) (x : Str) : Prop where
  n : PySem.W.findIn K (.ref (ga K x)) "__ne__" = some (some (.builtin "object.__ne__"))
  o : PySem.W.mroIn K (ga K x) (.type "object") = some true
theorem neB_ok {x : Str} {K : PySem.W.Frag} (c : neB x K = true) : NeC K x := by
  unfold neB at c
  obtain ⟨c1, c2⟩ := ba c
  exact ⟨eqO_ok c1, beq_iff_eq.mp c2⟩
theorem op_neC {X : Cx} {k j : Nat} {x : Str} {sp : Sp} (c : EqC X.prog X.w X.K X.mg X.base k x sp) (d : NeC X.K x) (hr : Room j X.A) (hk : k + 1 ≤ j) : OpR X (compareOp .NotEq) (rNeO X.K (ga X.K x) sp E0) := by
  obtain ⟨f, fd, ps, F, hs, hf, hb⟩ := c.ex
  exact op_neOwn F hs hf hb d.n d.o (hr.mono hk)
end Vf

namespace Vf
open PySem L2 PySem.Spec PyProof.Rows He RZ
/-! calls of a method that may raise -/
structure MetX (P : Program) (w : World) (K : PySem.W.Frag) (mg : Str → Option Value) (base : Heap) (k : Nat) (C : Addr) (m : Str) (sp : Sp) : Prop where
  ex : ∃ (f : Addr) (fd : FuncData) (ps : List Str), Cls K C ∧ Meth K C m f ∧ FnOk P w K mg base (L2.CX P w) k f fd ps sp ∧ Binds K fd ps []
def tMethX (C : Addr) (m : Str) (sp : Sp) (EE : L2.St → XK) (ta : TE) (t : TA) : TE := fun σ H Q => ta σ H fun x H1 => ∃ a dx fs, x = .ref a ∧ H1 a = some (.ins C dx fs) ∧ fs.lookup m = none ∧ t σ H1 fun vs H2 => sp (x :: vs) H2 Q (EE σ)
section
variable {X : Cx} {k j : Nat} {C : Addr} {m : Str} {sp : Sp} {o e : Expr} {es : List Expr} {ta : TE} {t : TA} {apos pos : Pos} {W : WX}
theorem pe_mtX {pl : Sem Bool} (c : MetX X.prog X.w X.K X.mg X.base k C m sp) (hr : Room j X.A) (hk : k ≤ j) (tk : Takes X W) (he : PE X o ta) (ha : PA X (e :: es) t)
    (hst : starEach (e :: es) X.env = (false, eval e X.env) :: starEach es X.env := by rfl) (hpl : (backTo pos (starEach es X.env)).any (·.1) = false := by rfl)
    (ht : eval (.Call (.Attribute o m apos) (e :: es) [] pos) X.env = (do
      let ov ← eval o X.env
      standAt apos.atName
      let (f, first) ← holding [ov] (getMethod ov m pl)
      callWith pos f first (backTo pos (starEach (e :: es) X.env)) (backToKw pos (keywordEach [] X.env))) := by rfl) :
    PE X (.Call (.Attribute o m apos) (e :: es) [] pos) (tMethX C m sp (WE W) ta t) := by
  obtain ⟨f, fd, ps, hc, hm, F, b⟩ := c.ex
  refine ⟨fun pins s σ H Q I h => ?_⟩
  refine PySem.W.methodCall_KW (pl := pl) (thn (he.run pins s σ H _ I h) fun u s1 ⟨x, H1, I1, rx, a, dx, fs, ex, ea, l, q⟩ => ?_) ht
  subst ex
  obtain rfl : u = Value.ref a := rx
  refine getmeth_ok I1 ea hc hm l ?_
  refine PySem.W.callWith_K (first := [.ref a]) (h₀ := X.base) I.ok.mod.kin hm.kp (thn (ha.run pos pins s1 σ H1 _ I1 q) fun us s2 ⟨vs, H2, I2, r, q2⟩ => ⟨I2.kIn, ?_⟩) hst hpl
  exact run_fnS (E := WE W) (us := .ref a :: us) (vs := .ref a :: vs) F (hr.mono hk) b (passAt tk σ) I2 (.cons rfl r) q2
theorem pe_mtX0 {pl : Sem Bool} (c : MetX X.prog X.w X.K X.mg X.base k C m sp) (hr : Room j X.A) (hk : k ≤ j) (tk : Takes X W) (he : PE X o ta)
    (ht : eval (.Call (.Attribute o m apos) [] [] pos) X.env = (do
      let ov ← eval o X.env
      standAt apos.atName
      let (f, first) ← holding [ov] (getMethod ov m pl)
      callWith pos f first (backTo pos (starEach [] X.env)) (backToKw pos (keywordEach [] X.env))) := by rfl) :
    PE X (.Call (.Attribute o m apos) [] [] pos) (tMethX C m sp (WE W) ta tNil) := by
  obtain ⟨f, fd, ps, hc, hm, F, b⟩ := c.ex
  refine ⟨fun pins s σ H Q I h => ?_⟩
  refine PySem.W.methodCall_KW (pl := pl) (thn (he.run pins s σ H _ I h) fun u s1 ⟨x, H1, I1, rx, a, dx, fs, ex, ea, l, q⟩ => ?_) ht
  subst ex
  obtain rfl : u = Value.ref a := rx
  refine getmeth_ok I1 ea hc hm l ?_
  exact PySem.W.callWith_K0 (first := [.ref a]) I1.kIn hm.kp (run_fnS (E := WE W) (us := [.ref a]) (vs := [.ref a]) F (hr.mono hk) b (passAt tk σ) I1 (.cons rfl .nil) q)
end
end Vf

namespace Vf
open PySem L2 PySem.Spec PyProof.Rows He RZ L2H
/-! a def called in an except suite that lets nothing out: FnH without the word of the handled exception's context -/
structure FnQ (P : Program) (w : World) (K : PySem.W.Frag) (mg : Str → Option Value) (base : Heap) (k : Nat) (f : Addr) (fd : FuncData) (ps : List Str) (sp : Sp) : Prop where
  len : ∀ vs H Q E, sp vs H Q E → vs.length = ps.length
  run : ∀ (A : Around) (out : List Env) (s : Shared) (H : Hp) (ar : Args) (us : List Value) (vs : List V) (Q : VK) (E : XK) (pp : Addr × Obj), RoomH k A → PinOk out H s pp →
    Env0 P w K mg base A out s H → BindsTo s fd ar (ps.zip us) → Vals vs us → sp vs H Q E → codeAny (model P w) A (.call (.ref f) ar) (CR CX0 out P w H s Q E) s
section
variable {P : Program} {w : World} {K : PySem.W.Frag} {mg : Str → Option Value} {base : Heap} {x qual : Str} {params : Arguments} {body : List Stmt} {scope : Scope} {dvs : List V} {kws : List (Str × V)} {f : Addr} {fd : FuncData}
theorem okQ {N ps : List Str} {k : Nat} {sp : Sp} (F : FunD K x qual params body scope dvs kws f fd) (S : FnScope N ps scope)
    (len : ∀ vs H Q E, sp vs H Q E → vs.length = ps.length)
    (hbody : ∀ (cdv : Value) (A : Around) (out : List Env) (s : Shared) (H : Hp) (vs : List V) (Q : VK) (E : XK) (pp : Addr × Obj), RoomH k (A.deeper (envOfC qual scope s.heap.objs.size f cdv)) →
      sp vs H Q E → ∃ t, PSs (cxH CX0 P w K mg base N qual scope f cdv A out s H E pp) body t ∧
        t { nx := fun _ H' => Q .non H', rt := Q } (L2.start N vs) H) : FnQ P w K mg base (k + 1) f fd ps sp := by
  obtain ⟨oc, od, dV, kV, doc, pm, an, cdv, ct, osl, rfl, lk, hcd, _, _⟩ := F.ex
  refine ⟨len, fun A out s H ar us vs Q E pp hr hpin e0 hb r hsp => ?_⟩
  have hl := len _ _ _ _ hsp
  have kin : K.In s.heap := e0.mod.kin.keeps fun b o e => (e0.bs b o e).1
  have nol : s.heap.NoLimit := e0.mod.nolimit.keeps fun b o e => (e0.bs b o e).1
  have knd : ∀ y ∈ ps.zip us, scope.names.lookup y.1 = some .local ∨
      (scope.names.lookup y.1 = some .cell ∧ ((cellsFrom (s.heap.objs.size + 1) scope.names []).lookup y.1).isSome = true) := fun ⟨n, v⟩ hy =>
    (S.par n (List.of_mem_zip hy).1).imp id fun q => ⟨q, PySem.W.cellsFrom_some _ _ _ (.inl q)⟩
  refine codeAny_call_function hr.depth (kin _ _ lk) rfl S.co S.gen rfl (PySem.W.codeRec_of kin hcd) (hb _ _ _ _ ?_)
  refine wpAny_newFunctionEnv_cells S.kind knd fun env he s1 x => ?_
  subst he
  refine ⟨nol.keeps x.toInCall.keep, codeAny_func ?_⟩
  obtain ⟨t, ht, hq⟩ := hbody cdv A out s H vs Q E pp (hr.deeper _) hsp
  have I := inv_startH (CX := CX0) (E := E) S hpin e0 hl r x
  refine wpAny_mono (ht.run [] s1 (L2.start N vs) H _ I hq) (fun fl s' hs => ?_) fun e s' hs => hs
  cases fl with
  | ret u => obtain ⟨v, σ', H', J, rv, q⟩ := hs; exact ⟨v, H', J.os, J.bare, J.base, J.hok, rv, q⟩
  | next => obtain ⟨σ', H', J, q⟩ := hs; exact ⟨V.non, H', J.os, J.bare, J.base, J.hok, rfl, q⟩
  | brk => exact False.elim (let ⟨_, _, _, q⟩ := hs; q)
  | cont => exact False.elim (let ⟨_, _, _, q⟩ := hs; q)
end
structure CalQ (P : Program) (w : World) (K : PySem.W.Frag) (mg : Str → Option Value) (base : Heap) (k : Nat) (x : Str) (sp : Sp) : Prop where
  ex : ∃ (f : Addr) (fd : FuncData) (ps : List Str), FnQ P w K mg base k f fd ps sp ∧ mg x = some (.ref f) ∧ PySem.W.keepIn K (.ref f) = true ∧ Binds K fd ps []
theorem roomQ {k : Nat} {A : Around} {h : Option Value} (r : Room k A) : RoomH k (A.mark h) := ⟨r.dp, r.un⟩
theorem huQ {k : Nat} {A : Around} {h : Option Value} (r : Room k A) : (A.mark h).units + 1 < cLine := by
  have e : A.units + 1 < cLine := hu_of r
  exact e
theorem pe_cQ {X : Cx} {k j : Nat} {x : Str} {sp : Sp} {p pos : Pos} {e : Expr} {es : List Expr} {t : TA} (c : CalQ X.prog X.w X.K X.mg X.base k x sp) (hr : RoomH j X.A) (hk : k ≤ j) (hp : ∃ pp : Addr × Obj, pp ∈ X.pn) (hg : Gl X x) (ha : PA X (e :: es) t)
    (hdb : (x == ("__debug__" : Str)) = false := by decide) (he : starEach (e :: es) X.env = (false, eval e X.env) :: starEach es X.env := by rfl)
    (hpl : (backTo pos (starEach es X.env)).any (·.1) = false := by rfl) : PE X (.Call (.Name x p) (e :: es) [] pos) (tCall sp [] E0 t) := by
  obtain ⟨f, fd, ps, F, hm, kp, b⟩ := c.ex
  obtain ⟨pp, hp⟩ := hp
  refine ⟨fun pins s σ H Q I h => ?_⟩
  refine wpAny_Call_Name_kw (ld_glob I hg hm ?_ hdb)
  refine PySem.W.callWith_K (h₀ := X.base) I.ok.mod.kin kp (thn (ha.run pos pins s σ H _ I h) fun us s1 ⟨vs, H1, I1, r, q⟩ => ⟨I1.kIn, ?_⟩) he hpl
  have q : sp (vs ++ []) H1 Q E0 := q
  rw [List.append_nil] at q
  have hl : us.length = ps.length := by rw [← r.length]; exact F.len _ _ _ _ q
  have b2 := b s1 us I1.kIn (by rw [List.append_nil]; exact hl)
  rw [List.append_nil] at b2
  have P1 := I1.pin pp (List.mem_append_left _ hp)
  have pk : PinOk X.stack H1 s1 pp := ⟨P1.1, P1.2.1, fun hm => (List.mem_cons.mp (I1.stkSub pp.1 hm)).elim P1.2.2.1 P1.2.2.2.1, P1.2.2.2.2⟩
  refine wpAny_call (codeAny_mono (F.run X.A X.stack s1 H1 ⟨us, []⟩ us vs Q _ pp (hr.mono hk) pk I1.env0 b2 r q) fun r s' hq => ?_)
  cases r with
  | error e => exact False.elim hq
  | ok fl =>
    cases fl with
    | ret u => exact I1.after hq
    | next => exact False.elim hq
    | brk => exact False.elim hq
    | cont => exact False.elim hq
end Vf

namespace Vf
open PySem L2 PySem.Spec PyProof.Rows He RZ
/-! ### a comprehension whose element may raise -/
section
variable {X : Cx} {W : WX} {E : XK}
theorem comp_raise {pinsB pins : List (Addr × Obj)} {σB σ : L2.St} {HB H3 : Hp} {sB s3 s' : Shared} {scope : Scope} {ce : Env} {fp : List Addr} {xe : Value → Shared → Prop} {u : Value}
    (tk : Takes X W) (hst : X.stack = X.env :: X.outer) (hfr : X.env.frame = some X.env.locals) (hcf : ce.frame = X.env.frame)
    (I3 : Inv X pins σ H3 s3) (IB : Inv ((X.blk s3 H3 scope ce fp).wish xe) pinsB σB HB sB) (ff : ∀ b ∈ fp, FpOk X pins H3 b) (fC : s3.heap.objs.size ≤ ce.locals)
    (hE : ∀ cls d H', E cls d H' → W cls d σ H') (c : L2.CX X.prog X.w X.stack HB sB E u s') : notedBy (model X.prog X.w) X.A ce (CompFails (model X.prog X.w) X.A X.xe ce) u s' := by
  obtain ⟨a, Bh, H', cls, d, rfl, fl, hok, ub, na, os, ag, hE'⟩ := c
  have hA : X.A.frames = some (X.env :: X.outer) := by rw [I3.ok.frames, hst]
  obtain ⟨m, hn, _⟩ := IB.loc
  obtain ⟨oC, es, ep, hoC, hdC, hr⟩ := id hn
  have hoC : sB.heap.get? ce.locals = some oC := hoC
  have nCB : HB ce.locals = none := IB.free
  have nCf : ce.locals ∉ frs X.stack := fun hm => by
    rcases List.mem_cons.mp (I3.stkSub _ hm) with z | z
    · have := I3.lt
      rw [z] at fC
      exact absurd (Nat.lt_of_lt_of_le this fC) (Nat.lt_irrefl _)
    · exact I3.nofs fC z
  have hBC : Bh.get? ce.locals = some oC := ub.keep _ _ hoC nCB nCf
  have nC' : H' ce.locals = none := ub.free _ _ hoC nCB
  have fl2 : HandSPX.FlyingZ Bh (X.env :: X.outer) a (Zc cls d) s'.heap := by rw [← hst]; exact fl
  show wpAny _ X.A (noteFrame (.ref a) ce) _ _ s'
  rw [noteFrame_env _ hcf]
  refine HandSPX.looks_onZ Zc.steady hA hfr fl2 fun h' hh up => ?_
  obtain ⟨b1, b0, f1, oe, vs, T, oT, ts, he, hz, hd, h1, hnT, hTe, hT, hdT, h3⟩ := hh
  refine ⟨m, ⟨oC, es, ep, b1 _ _ hBC, hdC, hr⟩, fun h2 m2 hn2 hs2 => ?_⟩
  obtain ⟨B2, g1, g2⟩ := restrict h2 fun b => (Bh.get? b).isSome
  have st2 : B2.StaysIn h2 := fun b o e => by
    cases q : (Bh.get? b).isSome with
    | false => rw [g2 b q] at e; cases e
    | true => rw [g1 b q] at e; exact e
  have same : ∀ b o, b ≠ ce.locals → Bh.get? b = some o → B2.get? b = some o := fun b o ne e => by
    rw [g1 b (by simp [e]), hs2.2 b ne]
    exact b1 b o e
  have none2 : ∀ b, Bh.get? b = none → B2.get? b = none := fun b e => g2 b (by simp [e])
  have naC : a ≠ ce.locals := fun z => by rw [z, hBC] at b0; cases b0
  have nTC : T ≠ ce.locals := fun z => by rw [z, hBC] at hnT; cases hnT
  have he2 : h2.get? a = some oe := (hs2.2 a naC).trans he
  have hT2 : h2.get? T = some oT := (hs2.2 T nTC).trans hT
  have f2 : h2.FunFrames Bh (X.env :: X.outer) := Heap.FunFrames.sameBut hs2 hn2 f1
  have f3 : h2.FunFrames B2 (X.env :: X.outer) := funFrames_none f2 fun b hb => none2 b (f2.mem hb).1
  have hh2 : HandSPX.HeldZ B2 (X.env :: X.outer) a (Zc cls d) X.env.locals h2 := ⟨st2, none2 _ b0, f3, oe, vs, T, oT, ts, he2, hz, hd, h1, none2 _ hnT, hTe, hT2, hdT, h3⟩
  unfold PySem.passOn
  refine wpAny_bind (wpAny_field he2 hd h1 ?_)
  rw [if_neg (show ¬ ((Value.ref T == Value.none) = true) from by simp), hcf, hfr]
  refine wpAny_bind (HandSPX.setFlight_onZ hh2 fun h4 hh4 up4 => ?_)
  refine wpAny_throw (tk _ _ ?_)
  -- the block's state, then the def's, without the exception
  obtain ⟨G, k1, k2⟩ := restrict s'.heap fun b => (Bh.get? b).isSome || decide (b ∈ frs X.stack)
  have st : Bh.StaysIn s'.heap := fl.1
  have gB : ∀ b o, Bh.get? b = some o → G.get? b = some o := fun b o e => by
    rw [k1 b (by simp [e])]
    exact st b o e
  have gF : ∀ b, b ∈ frs X.stack → G.get? b = s'.heap.get? b := fun b hb => k1 b (by simp [hb])
  have og : ∀ b o, G.get? b = some o → s'.heap.get? b = some o ∧ ((Bh.get? b).isSome = true ∨ b ∈ frs X.stack) := fun b o e => by
    cases q : ((Bh.get? b).isSome || decide (b ∈ frs X.stack)) with
    | false => rw [k2 b q] at e; cases e
    | true =>
      rw [k1 b q] at e
      exact ⟨e, by simpa [Bool.or_eq_true] using q⟩
  have IB2 : Inv ((X.blk s3 H3 scope ce fp).wish xe) pinsB σB H' { sB with heap := G, gens := s'.gens, drawn := s'.drawn, toks := s'.toks } := by
    refine IB.call (ch := []) ⟨fun b o e n hb _ => gB b o (ub.keep b o e n hb), fun b o e n hb _ => ?_, fun b o e n _ => ub.free b o e n, fun b o e _ => ?_, ub.tups, ub.frzs, ub.tbls⟩ (hok.kept gB) ag (fun _ z => nomatch z)
    · obtain ⟨sl, q⟩ := ub.slot b o e hb
      exact ⟨sl, by rw [gF b hb]; exact q⟩
    · by_cases hb : b ∈ frs X.stack
      · obtain ⟨sl, q⟩ := ub.slot b o e hb
        exact ⟨_, by rw [gF b hb]; exact q⟩
      · obtain ⟨o', q⟩ := ub.there b o e hb
        exact ⟨o', gB b o' q⟩
  have J : Inv X pins σ H' { sB with heap := G, gens := s'.gens, drawn := s'.drawn, toks := s'.toks } := I3.call' (ch := fp) IB2.os IB2.base IB2.hok IB2.bare fun b hb => ⟨(ff b hb).2.2.2.1, (ff b hb).2.1, (ff b hb).2.2.2.2.1, (ff b hb).2.2.2.2.2⟩
  obtain ⟨G2, l1, l2⟩ := restrict h4 fun b => (B2.get? b).isSome || decide (b ∈ frs X.stack)
  obtain ⟨st4, _, f4, _⟩ := id hh4
  have gB2 : ∀ b o, B2.get? b = some o → G2.get? b = some o := fun b o e => by
    rw [l1 b (by simp [e])]
    exact st4 b o e
  have gF2 : ∀ b, b ∈ frs X.stack → G2.get? b = h4.get? b := fun b hb => l1 b (by simp [hb])
  have og2 : ∀ b o, G2.get? b = some o → h4.get? b = some o ∧ ((B2.get? b).isSome = true ∨ b ∈ frs X.stack) := fun b o e => by
    cases q : ((B2.get? b).isSome || decide (b ∈ frs X.stack)) with
    | false => rw [l2 b q] at e; cases e
    | true =>
      rw [l1 b q] at e
      exact ⟨e, by simpa [Bool.or_eq_true] using q⟩
  have slot2 : ∀ b o, G.get? b = some o → b ∈ frs X.stack → ∃ sl, G2.get? b = some { o with slots := sl } := fun b o e hb => by
    have e1 := (og b o e).1
    have hb' : b ∈ frs (X.env :: X.outer) := by rw [← hst]; exact hb
    obtain ⟨_, o₀, e₀, hnf⟩ := fl2.2.2.1.mem hb'
    rw [e1] at e₀; cases e₀
    obtain ⟨sl, e2⟩ := up b _ e1 hnf
    have e3 : h2.get? b = some { o with slots := sl } := (hs2.2 b fun z => nCf (z ▸ hb)).trans e2
    obtain ⟨sl2, e4⟩ := up4 b _ e3 hnf
    exact ⟨sl2, by rw [gF2 b hb]; exact e4⟩
  have keep2 : ∀ b o, G.get? b = some o → b ∉ frs X.stack → b ≠ ce.locals → G2.get? b = some o := fun b o e hb ne => by
    obtain ⟨e1, h⟩ := og b o e
    rcases h with h | h
    · obtain ⟨o', q⟩ := Option.isSome_iff_exists.mp h
      have z := st b o' q
      rw [e1] at z; cases z
      exact gB2 b o (same b o ne q)
    · exact absurd h hb
  have hok2 : HOk X.prog X.w H' B2 := fun b o e => (hok b o e).stay (fun c v hc q => same c v (fun z => by
    rcases hc with hc | hc
    · rw [← hc, z, nC'] at e; cases e
    · rw [z, nC'] at hc; cases hc) q) (fun _ q => q) fun _ _ q => q
  have fpC := I3.fpOk (H' := H') fC nC'
  have J2 : Inv X pins σ H' { sB with heap := G2, gens := s'.gens, drawn := s'.drawn, toks := s'.toks } := by
    refine L2.Inv.call (s := { sB with heap := G, gens := s'.gens, drawn := s'.drawn, toks := s'.toks }) (ch := [ce.locals]) (g' := s'.gens) (d' := s'.drawn) (t' := s'.toks) J ⟨fun b o e _ hb hc => keep2 b o e hb fun z => hc (by simp [z]), fun b o e _ hb _ => slot2 b o e hb, fun _ _ _ n _ => n, fun b o e hc => ?_, fun _ _ e => e, fun _ _ _ e => e, fun b ps e => ⟨#[], by rw [e]; simp⟩⟩ (hok2.kept gB2) ag fun b hb => ?_
    · by_cases hb : b ∈ frs X.stack
      · obtain ⟨sl, q⟩ := slot2 b o e hb
        exact ⟨_, q⟩
      · exact ⟨o, keep2 b o e hb fun z => hc (by simp [z])⟩
    · have e : b = ce.locals := by simpa using hb
      subst e
      obtain ⟨_, q2, _, q4, q5, q6⟩ := fpC
      exact ⟨q4, q2, q5, q6⟩
  refine ⟨a, B2, { sB with heap := G2, gens := s'.gens, drawn := s'.drawn, toks := s'.toks }, pins, σ, H', cls, d, rfl, J2, fun b o e hb => ?_, Heap.UpToSlots.of_keeps fun b o e => (og2 b o e).1, .inr (.inr (by rw [hst]; exact hh4)), na, os, ag, hE _ _ _ hE'⟩
  obtain ⟨e', h⟩ := og2 b o e
  rcases h with h | h
  · obtain ⟨o', q⟩ := Option.isSome_iff_exists.mp h
    have z := st4 b o' q
    rw [e'] at z; cases z
    exact q
  · exact absurd h hb

/-- [elt for tg in iter], elt may raise: the def's wish stands for the element's too -/
def tLcX (wi : TI) (g : TG) (te : XK → TE) (vs : List Nat) (EE : L2.St → XK) : TE := fun σ H Q => tLc wi g tYes (te (EE σ)) vs σ H Q
theorem pe_lcX {elt tg iter : Expr} {scope : Scope} {own : List (Str × Nat)} {pos : Pos} {wi : TI} {g : TG} {te : XK → TE} (hc : X.calm = true) (hN : X.N.Nodup) (tk : Takes X W) (hst : X.stack = X.env :: X.outer) (hfr : X.env.frame = some X.env.locals) (hi : PI X tg iter wi)
    (ok : BlkOk X.N X.env.scope scope own) (hg : ∀ (s : Shared) (H : Hp) (C : Addr) (cl : List (Str × Addr)) (fp : List Addr), PG (X.blk s H scope (compEnvC scope cl C X.env) fp) tg g)
    (he : ∀ (s : Shared) (H : Hp) (C : Addr) (cl : List (Str × Addr)) (fp : List Addr) (xe : Value → Shared → Prop) (E : XK), (∀ σ', PassesAt (L2.CX X.prog X.w) ((X.blk s H scope (compEnvC scope cl C X.env) fp).wish xe) σ' E) → PE ((X.blk s H scope (compEnvC scope cl C X.env) fp).wish xe) elt (te E))
    (hs : ∀ x, foldedSetIterable iter X.env x = pure x := by intro _; rfl) :
    PE X (.ListComp elt [⟨tg, iter, [], 0⟩] scope pos) (tLcX wi g te (own.map (·.2)) (WE W)) := by
  refine ⟨fun pins s σ H Q I h => ?_⟩
  rw [eval_ListComp]
  have hfree : ∀ y ∈ scope.names, y.2 = .free → ∃ c, X.env.cells.lookup y.1 = some c := fun y hy e => (ok.free y hy e).elim (fun k => I.ok.has _ (.inl k)) fun k => I.ok.has _ (.inr k)
  refine comprehension_at (use := none) rfl hs (closure_ok hfree) ok.kind (fun y hy e => by rw [ok.uniq y hy, e]) (thn (hi.run pins s σ H _ I h) fun xv s1 hx => thn hx fun itv s2 h2 => ?_)
  obtain ⟨it, fp, tn, J, H2, rfl, I2, T, st2, f2, q⟩ := h2
  refine wpAny_newObj_type (newEnv_comp ?_) (by show 0 ≤ sizeLine; decide)
  generalize hD : s2.heap.objs.size = D
  have hDn : H2 D = none := I2.hok.fresh (Nat.le_of_eq hD)
  obtain ⟨Wn, ⟨m0, w0⟩, turn⟩ := q D hDn
  generalize hs3 : ({ s2 with heap := s2.heap.push { cls := .type "list", data := .seq ([] : List Value).toArray } } : Shared) = s3
  have h3 : s3.heap = s2.heap.push { cls := .type "list", data := .seq ([] : List Value).toArray } := by rw [← hs3]
  have I3 : Inv X pins σ (upd H2 D (.lst [])) s3 := by
    rw [← hs3]
    exact I2.laid (t' := s2.toks) (fun b o e => Heap.get?_push_of_some _ e) (Nat.le_of_eq hD) ⟨Nat.zero_le _, [], 0, .nil, by rw [← hD]; exact Heap.get?_push_size _ rfl⟩
  have f3 : ∀ b ∈ fp, FpOk X pins (upd H2 D (.lst [])) b ∧ b < s3.heap.objs.size := fun b hb => by
    obtain ⟨o, e, _⟩ := T.obj _ _ st2 b hb
    have hlt := Heap.lt_size e
    refine ⟨⟨?_, (f2 b hb).2⟩, by rw [h3, Heap.size_push]; exact Nat.lt_succ_of_lt hlt⟩
    rw [upd_ne (by rw [← hD]; exact Nat.ne_of_lt hlt)]
    exact (f2 b hb).1
  have st3 : tn 0 s3.heap := T.keep _ _ _ st2 fun b _ o e => by rw [h3]; exact Heap.get?_push_of_some _ e
  have I4 := block_start I3 ok hN f3
  have pg := hg s3 (upd H2 D (.lst [])) s3.heap.objs.size (cellsFrom (s3.heap.objs.size + 1) scope.names (cloFrom X.env.cells scope.names [])) fp
  have pe := he s3 (upd H2 D (.lst [])) s3.heap.objs.size (cellsFrom (s3.heap.objs.size + 1) scope.names (cloFrom X.env.cells scope.names [])) fp
  show codeAny _ _ (.compStart (.ListComp elt [⟨tg, iter, [], 0⟩] scope pos) 0 (.ref it) (.ref D) (compEnvC scope (cellsFrom (s3.heap.objs.size + 1) scope.names (cloFrom X.env.cells scope.names [])) s3.heap.objs.size X.env))
    (compEnds (model X.prog X.w) X.A X.xe none (EP X pins σ Q) (.ref D) (compEnvC scope (cellsFrom (s3.heap.objs.size + 1) scope.names (cloFrom X.env.cells scope.names [])) s3.heap.objs.size X.env)) { s3 with heap := pushCells (s3.heap.push { cls := .type "dict", data := .dict #[] }) scope.names }
  have nfp : ∀ b ∈ fp, (upd H2 D (.lst [])) b = none := fun b hb => (f3 b hb).1.1
  generalize hce : compEnvC scope (cellsFrom (s3.heap.objs.size + 1) scope.names (cloFrom X.env.cells scope.names [])) s3.heap.objs.size X.env = ce at I4 pg pe ⊢
  have cL : ce.locals = s3.heap.objs.size := by subst hce; rfl
  have cF : ce.frame = X.env.frame := by subst hce; rfl
  generalize upd H2 D (.lst []) = H3 at I3 I4 pg pe w0 nfp f3
  generalize hs4 : ({ s3 with heap := pushCells (s3.heap.push { cls := .type "dict", data := .dict #[] }) scope.names } : Shared) = s4 at I4 ⊢
  have st4 : tn 0 s4.heap := T.keep _ _ _ st3 fun b _ o e => by rw [← hs4]; exact pushCells_keeps _ _ _ _ (Heap.get?_push_of_some _ e)
  have pe := pe (notedBy (model X.prog X.w) X.A ce (CompFails (model X.prog X.w) X.A X.xe ce)) (WE W σ) fun σ' pins' H' s' e s'' I' c =>
    comp_raise (xe := notedBy (model X.prog X.w) X.A ce (CompFails (model X.prog X.w) X.A X.xe ce)) tk hst hfr cF I3 I' (fun b hb => (f3 b hb).1) (Nat.le_of_eq cL.symm) (fun _ _ _ h => h) c
  have stat : ∀ {σ' : L2.St} {H' : Hp} {s' : Shared}, Inv (X.blk s3 H3 scope ce fp) [] σ' H' s' → (∀ b ∈ fp, H' b = none) → ∀ b ∈ fp, FpOk (X.blk s3 H3 scope ce fp) [] H' b := fun I' hn b hb =>
    ⟨hn b hb, (I'.ok.exf b hb).1, I'.ok.exfs b hb, .inl hb, fun x c e => (I'.ok.exf b hb).2 x c e, fun p hp => absurd (show p ∈ ([] : List (Addr × Obj)) ++ [] from hp) (by simp)⟩
  have loop : codeAny (model X.prog X.w) X.A (.compLoop (.ListComp elt [⟨tg, iter, [], 0⟩] scope pos) 0 (.ref it) (.ref D) ce) (compEnds (model X.prog X.w) X.A X.xe none (EP X pins σ Q) (.ref D) ce) s4 := by
    refine compLoop_any (fun n s' => ∃ i H', Inv (X.blk s3 H3 scope ce fp) [] (wipe σ (own.map (·.2))) H' s' ∧ tn i s'.heap ∧ (∀ b ∈ fp, H' b = none) ∧ Wn i n H') ?_ m0 ⟨0, H3, I4, st4, nfp, w0⟩
    rintro n s5 ⟨i, H5, I5, st5, n5, w5⟩
    rcases turn i n H5 w5 with ⟨stop, qq⟩ | ⟨go, Nx, hNx, step⟩
    · refine thnF (T.done (X.blk s3 H3 scope ce fp) rfl rfl rfl hc i [] s5 _ H5 (fun _ _ => False) I5 (stat I5 n5) st5 stop) fun r s6 ⟨hr, I6⟩ => ?_
      subst hr
      have I7 : Inv X pins σ H5 s6 := I3.call' (ch := fp) I6.os I6.base I6.hok I6.bare fun b hb => ⟨(f3 b hb).1.2.2.2.1, (f3 b hb).1.2.1, (f3 b hb).1.2.2.2.2.1, (f3 b hb).1.2.2.2.2.2⟩
      have nC : H5 ce.locals = none := I6.free
      obtain ⟨m, hn, _⟩ := I6.loc
      refine ⟨m, hn, fun h'' sb => ?_⟩
      obtain ⟨g0, g1, _, g3, g4, g5⟩ := I3.fpOk (Nat.le_of_eq cL.symm) nC
      exact ⟨.ref D, H5, I7.turned (t' := s6.toks) (fun b o hb e => (sb.2 b hb).trans e) g0 g1 g3 g4 g5, rfl, qq⟩
    · refine thnF (T.item (X.blk s3 H3 scope ce fp) rfl rfl rfl hc i [] s5 _ H5 (fun _ _ => False) I5 (stat I5 n5) st5 go) fun r s6 ⟨u, hr, h6⟩ => ?_
      subst hr
      refine thnF h6 fun _ s7 ⟨x, H7, I7, r7, y7, st7, n7⟩ => ?_
      refine thnF (pg.run _ s7 _ H7 x u _ (I7.pinned (stat I7 n7) (T.obj _ _ st7)) r7 (step x H7 y7)) fun _ s8 ⟨σ8, H8, I8, hw8, q8⟩ => ?_
      have fin : ∀ {s' : Shared} {H' : Hp}, Inv (X.blk s3 H3 scope ce fp) ([] ++ pinsAt fp s7.heap) σ8 H' s' → Nx H' → ∃ m, m < n ∧ ∃ i H', Inv (X.blk s3 H3 scope ce fp) [] (wipe σ (own.map (·.2))) H' s' ∧ tn i s'.heap ∧ (∀ b ∈ fp, H' b = none) ∧ Wn i m H' := fun {s' H'} I' nx => by
        obtain ⟨m', hm, w'⟩ := hNx H' nx
        have pin' : ∀ b ∈ fp, ∀ o, s7.heap.get? b = some o → s'.heap.get? b = some o ∧ H' b = none := fun b hb o e =>
          let z := I'.pin (b, o) (List.mem_append_right _ (List.mem_append_right _ (mem_pinsAt hb e)))
          ⟨z.1, z.2.1⟩
        refine ⟨m', hm, i + 1, H', (I'.unpinned (pins := [])).weak (by rw [← hw8, wipe_length]) (fun j v e => ?_), T.keep _ _ _ st7 fun b hb o e => (pin' b hb o e).1, fun b hb => ?_, w'⟩
        · rw [← hw8] at e
          exact (wipe_some e).1
        · obtain ⟨o, e, _⟩ := T.obj _ _ st7 b hb
          exact (pin' b hb o e).2
      refine wpAny_tests_nil ?_
      simp only [if_true]
      refine thn (pe.run _ s8 σ8 H8 _ (I8.wish _) q8) fun z s10 ⟨yv, H10, I10, r10, acc, hD10, hz10, nx⟩ => ?_
      exact app_ok (X := X.blk s3 H3 scope ce fp) I10.unwish hD10 hz10 r10 fun s11 I11 => fin I11 nx
  exact codeAny_compStart_list loop (T.self X.A 0 _ _ _ st4 loop)
end
/-! ### methods that may raise, with default values -/
structure MetXD (P : Program) (w : World) (K : PySem.W.Frag) (mg : Str → Option Value) (base : Heap) (k : Nat) (C : Addr) (m : Str) (sp : Sp) (dvs : List V) : Prop where
  ex : ∃ (f : Addr) (fd : FuncData) (ps : List Str) (ds : List Value), Cls K C ∧ Meth K C m f ∧ FnOk P w K mg base (L2.CX P w) k f fd ps sp ∧ Binds K fd ps ds ∧ Vals dvs ds
def tMethXD (C : Addr) (m : Str) (sp : Sp) (dvs : List V) (EE : L2.St → XK) (ta : TE) (t : TA) : TE := fun σ H Q => ta σ H fun x H1 => ∃ a dx fs, x = .ref a ∧ H1 a = some (.ins C dx fs) ∧ fs.lookup m = none ∧ t σ H1 fun vs H2 => sp (x :: (vs ++ dvs)) H2 Q (EE σ)
section
variable {X : Cx} {k j : Nat} {C : Addr} {m : Str} {sp : Sp} {dvs : List V} {o e : Expr} {es : List Expr} {ta : TE} {t : TA} {apos pos : Pos} {W : WX} {E : L2.St → XK}
theorem pe_mtA {pl : Sem Bool} (c : MetXD X.prog X.w X.K X.mg X.base k C m sp dvs) (hr : Room j X.A) (hk : k ≤ j) (hx : ∀ σ, PassesAt (L2.CX X.prog X.w) X σ (E σ)) (he : PE X o ta) (ha : PA X (e :: es) t)
    (hst : starEach (e :: es) X.env = (false, eval e X.env) :: starEach es X.env := by rfl) (hpl : (backTo pos (starEach es X.env)).any (·.1) = false := by rfl)
    (ht : eval (.Call (.Attribute o m apos) (e :: es) [] pos) X.env = (do
      let ov ← eval o X.env
      standAt apos.atName
      let (f, first) ← holding [ov] (getMethod ov m pl)
      callWith pos f first (backTo pos (starEach (e :: es) X.env)) (backToKw pos (keywordEach [] X.env))) := by rfl) :
    PE X (.Call (.Attribute o m apos) (e :: es) [] pos) (tMethXD C m sp dvs E ta t) := by
  obtain ⟨f, fd, ps, ds, hc, hm, F, b, hd⟩ := c.ex
  refine ⟨fun pins s σ H Q I h => ?_⟩
  refine PySem.W.methodCall_KW (pl := pl) (thn (he.run pins s σ H _ I h) fun u s1 ⟨x, H1, I1, rx, a, dx, fs, ex, ea, l, q⟩ => ?_) ht
  subst ex
  obtain rfl : u = Value.ref a := rx
  refine getmeth_ok I1 ea hc hm l ?_
  refine PySem.W.callWith_K (first := [.ref a]) (h₀ := X.base) I.ok.mod.kin hm.kp (thn (ha.run pos pins s1 σ H1 _ I1 q) fun us s2 ⟨vs, H2, I2, r, q2⟩ => ⟨I2.kIn, ?_⟩) hst hpl
  exact run_fnSD (E := E) (us := .ref a :: us) (vs := .ref a :: vs) F (hr.mono hk) b hd (hx σ) I2 (.cons rfl r) q2
theorem pe_mtA0 {pl : Sem Bool} (c : MetXD X.prog X.w X.K X.mg X.base k C m sp dvs) (hr : Room j X.A) (hk : k ≤ j) (hx : ∀ σ, PassesAt (L2.CX X.prog X.w) X σ (E σ)) (he : PE X o ta)
    (ht : eval (.Call (.Attribute o m apos) [] [] pos) X.env = (do
      let ov ← eval o X.env
      standAt apos.atName
      let (f, first) ← holding [ov] (getMethod ov m pl)
      callWith pos f first (backTo pos (starEach [] X.env)) (backToKw pos (keywordEach [] X.env))) := by rfl) :
    PE X (.Call (.Attribute o m apos) [] [] pos) (tMethXD C m sp dvs E ta tNil) := by
  obtain ⟨f, fd, ps, ds, hc, hm, F, b, hd⟩ := c.ex
  refine ⟨fun pins s σ H Q I h => ?_⟩
  refine PySem.W.methodCall_KW (pl := pl) (thn (he.run pins s σ H _ I h) fun u s1 ⟨x, H1, I1, rx, a, dx, fs, ex, ea, l, q⟩ => ?_) ht
  subst ex
  obtain rfl : u = Value.ref a := rx
  refine getmeth_ok I1 ea hc hm l ?_
  exact PySem.W.callWith_K0 (first := [.ref a]) I1.kIn hm.kp (run_fnSD (E := E) (us := [.ref a]) (vs := [.ref a]) F (hr.mono hk) b hd (hx σ) I1 (.cons rfl .nil) q)
theorem pe_mtXD {pl : Sem Bool} (c : MetXD X.prog X.w X.K X.mg X.base k C m sp dvs) (hr : Room j X.A) (hk : k ≤ j) (tk : Takes X W) (he : PE X o ta) (ha : PA X (e :: es) t)
    (hst : starEach (e :: es) X.env = (false, eval e X.env) :: starEach es X.env := by rfl) (hpl : (backTo pos (starEach es X.env)).any (·.1) = false := by rfl)
    (ht : eval (.Call (.Attribute o m apos) (e :: es) [] pos) X.env = (do
      let ov ← eval o X.env
      standAt apos.atName
      let (f, first) ← holding [ov] (getMethod ov m pl)
      callWith pos f first (backTo pos (starEach (e :: es) X.env)) (backToKw pos (keywordEach [] X.env))) := by rfl) :
    PE X (.Call (.Attribute o m apos) (e :: es) [] pos) (tMethXD C m sp dvs (WE W) ta t) := pe_mtA c hr hk (fun σ => passAt tk σ) he ha hst hpl ht
theorem pe_mtXD0 {pl : Sem Bool} (c : MetXD X.prog X.w X.K X.mg X.base k C m sp dvs) (hr : Room j X.A) (hk : k ≤ j) (tk : Takes X W) (he : PE X o ta)
    (ht : eval (.Call (.Attribute o m apos) [] [] pos) X.env = (do
      let ov ← eval o X.env
      standAt apos.atName
      let (f, first) ← holding [ov] (getMethod ov m pl)
      callWith pos f first (backTo pos (starEach [] X.env)) (backToKw pos (keywordEach [] X.env))) := by rfl) :
    PE X (.Call (.Attribute o m apos) [] [] pos) (tMethXD C m sp dvs (WE W) ta tNil) := pe_mtA0 c hr hk (fun σ => passAt tk σ) he ht
end
end Vf

namespace Vf
open PySem L2 PySem.Spec PyProof.Rows He RZ
/-! ### what may raise, called where it does not -/
theorem passA0 {X : Cx} {σ : L2.St} : PassesAt (L2.CX X.prog X.w) X σ E0 := fun _ _ _ _ _ _ c => by
  obtain ⟨_, _, _, _, _, _, _, _, _, _, _, _, hE⟩ := c
  exact False.elim hE
theorem pe_cA {X : Cx} {k j : Nat} {x : Str} {sp : Sp} {p pos : Pos} {e : Expr} {es : List Expr} {t : TA} (c : CalX X.prog X.w X.K X.mg X.base k x sp) (hr : Room j X.A) (hk : k ≤ j) (hg : Gl X x) (ha : PA X (e :: es) t)
    (hdb : (x == ("__debug__" : Str)) = false := by decide) (he : starEach (e :: es) X.env = (false, eval e X.env) :: starEach es X.env := by rfl)
    (hpl : (backTo pos (starEach es X.env)).any (·.1) = false := by rfl) : PE X (.Call (.Name x p) (e :: es) [] pos) (tCallS sp (fun _ => E0) t) := by
  obtain ⟨f, fd, ps, F, hm, kp, b⟩ := c.ex
  exact pe_callS F (hr.mono hk) hg hm kp b (fun σ => passA0) ha hdb he hpl
end Vf

namespace Vf
open PySem L2 PySem.Spec PyProof.Rows He RZ
/-! ### C(..) whose __init__ may raise -/
structure MakX (P : Program) (w : World) (K : PySem.W.Frag) (mg : Str → Option Value) (base : Heap) (k : Nat) (x : Str) (C : Addr) (sp : Sp) : Prop where
  ex : ∃ (f : Addr) (fd : FuncData) (ps : List Str), Mk K C f ∧ FnOk P w K mg base (L2.CX P w) k f fd ps sp ∧ mg x = some (.ref C) ∧ Binds K fd ps []
def tMakX (C : Addr) (sp : Sp) (EE : L2.St → XK) (t : TA) : TE := fun σ H Q => t σ H fun vs H1 => ∀ x dx, H1 x = none → H1 dx = none → dx ≠ x → sp (.ref x :: vs) (upd (upd H1 dx (.own x)) x (.ins C dx [])) (fun v H2 => v = .non ∧ Q (.ref x) H2) (EE σ)
theorem e_tMakX {C : Addr} {sp : Sp} {EE : L2.St → XK} {t : TA} {σ : L2.St} {H : Hp} {Q : VK} (q : t σ H fun vs H1 => ∀ x dx, H1 x = none → H1 dx = none → dx ≠ x → sp (.ref x :: vs) (upd (upd H1 dx (.own x)) x (.ins C dx [])) (fun v H2 => v = .non ∧ Q (.ref x) H2) (EE σ)) : tMakX C sp EE t σ H Q := q
section
variable {X : Cx} {CX : CXT} {k j : Nat} {f C : Addr} {fd : FuncData} {ps : List Str} {sp : Sp} {E : L2.St → XK} {x m : Str} {p pos apos : Pos} {e o : Expr} {es : List Expr} {t : TA}
theorem run_makeX {pins : List (Addr × Obj)} {σ : L2.St} {H : Hp} {s : Shared} {Q : VK} {us : List Value} {vs : List V} (M : Mk X.K C f) (F : FnOk X.prog X.w X.K X.mg X.base CX k f fd ps sp) (hr : Room (k + 1) X.A) (hb : Binds X.K fd ps [])
    (hx : PassesAt CX X σ (E σ)) (I : Inv X pins σ H s) (r : Vals vs us)
    (h : ∀ x dx, H x = none → H dx = none → dx ≠ x → sp (.ref x :: vs) (upd (upd H dx (.own x)) x (.ins C dx [])) (fun v H2 => v = .non ∧ Q (.ref x) H2) (E σ)) :
    wpAny (model X.prog X.w) X.A (call (.ref C) us) (EP X pins σ Q) X.xe s := by
  have hq := h (s.heap.objs.size + 1) s.heap.objs.size (I.hok.fresh (Nat.le_succ _)) (I.hok.fresh (Nat.le_refl _)) (Nat.ne_of_lt (Nat.lt_succ_self _))
  have I2 := Inv.made (C := C) I
  have r2 : Vals (V.ref (s.heap.objs.size + 1) :: vs) (Value.ref (s.heap.objs.size + 1) :: us) := .cons rfl r
  have hl : (Value.ref (s.heap.objs.size + 1) :: us).length = ps.length := by
    have e := r2.length
    rw [F.len _ _ _ _ hq] at e
    exact e.symm
  have b := hb _ (Value.ref (s.heap.objs.size + 1) :: us) I2.kIn (by rw [List.append_nil]; exact hl)
  rw [List.append_nil] at b
  refine wpAny_call (make_map (f := f) I.kIn M.makes M.init (beq_iff_eq.mp M.fn) (codeAny_mono (F.run _ X.stack _ _ ⟨Value.ref (s.heap.objs.size + 1) :: us, []⟩ (Value.ref (s.heap.objs.size + 1) :: us) _ _ (E σ) (hr.make C us [])
    (I2.env0.make C us []) b r2 hq) fun r s' hq' => ?_))
  cases r with
  | error e => exact hx pins _ _ e s' I2 hq'
  | ok fl =>
    cases fl with
    | ret u =>
      obtain ⟨v, H', I3, rv, ev, q3⟩ := I2.after hq'
      subst ev
      exact ⟨rv, ⟨V.ref (s.heap.objs.size + 1), H', I3, rfl, q3⟩⟩
    | next => exact False.elim hq'
    | brk => exact False.elim hq'
    | cont => exact False.elim hq'
end
theorem pe_mkX {X : Cx} {W : WX} {k j : Nat} {C : Addr} {x : Str} {sp : Sp} {p pos : Pos} {e : Expr} {es : List Expr} {t : TA} (c : MakX X.prog X.w X.K X.mg X.base k x C sp) (hr : Room j X.A) (hk : k + 1 ≤ j) (tk : Takes X W) (hg : Gl X x) (ha : PA X (e :: es) t)
    (hdb : (x == ("__debug__" : Str)) = false := by decide) (he : starEach (e :: es) X.env = (false, eval e X.env) :: starEach es X.env := by rfl) (hpl : (backTo pos (starEach es X.env)).any (·.1) = false := by rfl) :
    PE X (.Call (.Name x p) (e :: es) [] pos) (tMakX C sp (WE W) t) := by
  obtain ⟨f, fd, ps, M, F, hm, b⟩ := c.ex
  refine ⟨fun pins s σ H Q I h => ?_⟩
  refine wpAny_Call_Name_kw (ld_glob I hg hm ?_ hdb)
  refine PySem.W.callWith_K (h₀ := X.base) I.ok.mod.kin M.kp (thn (ha.run pos pins s σ H _ I h) fun us s1 ⟨vs, H1, I1, r, q⟩ => ⟨I1.kIn, ?_⟩) he hpl
  exact run_makeX (E := WE W) M F (hr.mono hk) b (passAt tk _) I1 r q
section
variable {X : Cx} {k j : Nat} {C : Addr} {m : Str} {sp : Sp} {o e : Expr} {es : List Expr} {ta : TE} {t : TA} {apos pos : Pos}
theorem pe_mtXA {pl : Sem Bool} (c : MetX X.prog X.w X.K X.mg X.base k C m sp) (hr : Room j X.A) (hk : k ≤ j) (he : PE X o ta) (ha : PA X (e :: es) t)
    (hst : starEach (e :: es) X.env = (false, eval e X.env) :: starEach es X.env := by rfl) (hpl : (backTo pos (starEach es X.env)).any (·.1) = false := by rfl)
    (ht : eval (.Call (.Attribute o m apos) (e :: es) [] pos) X.env = (do
      let ov ← eval o X.env
      standAt apos.atName
      let (f, first) ← holding [ov] (getMethod ov m pl)
      callWith pos f first (backTo pos (starEach (e :: es) X.env)) (backToKw pos (keywordEach [] X.env))) := by rfl) :
    PE X (.Call (.Attribute o m apos) (e :: es) [] pos) (tMethX C m sp (fun _ => E0) ta t) := by
  obtain ⟨f, fd, ps, hc, hm, F, b⟩ := c.ex
  refine ⟨fun pins s σ H Q I h => ?_⟩
  refine PySem.W.methodCall_KW (pl := pl) (thn (he.run pins s σ H _ I h) fun u s1 ⟨x, H1, I1, rx, a, dx, fs, ex, ea, l, q⟩ => ?_) ht
  subst ex
  obtain rfl : u = Value.ref a := rx
  refine getmeth_ok I1 ea hc hm l ?_
  refine PySem.W.callWith_K (first := [.ref a]) (h₀ := X.base) I.ok.mod.kin hm.kp (thn (ha.run pos pins s1 σ H1 _ I1 q) fun us s2 ⟨vs, H2, I2, r, q2⟩ => ⟨I2.kIn, ?_⟩) hst hpl
  exact run_fnS (E := fun _ => E0) (us := .ref a :: us) (vs := .ref a :: vs) F (hr.mono hk) b passA0 I2 (.cons rfl r) q2
theorem pe_mtXA0 {pl : Sem Bool} (c : MetX X.prog X.w X.K X.mg X.base k C m sp) (hr : Room j X.A) (hk : k ≤ j) (he : PE X o ta)
    (ht : eval (.Call (.Attribute o m apos) [] [] pos) X.env = (do
      let ov ← eval o X.env
      standAt apos.atName
      let (f, first) ← holding [ov] (getMethod ov m pl)
      callWith pos f first (backTo pos (starEach [] X.env)) (backToKw pos (keywordEach [] X.env))) := by rfl) :
    PE X (.Call (.Attribute o m apos) [] [] pos) (tMethX C m sp (fun _ => E0) ta tNil) := by
  obtain ⟨f, fd, ps, hc, hm, F, b⟩ := c.ex
  refine ⟨fun pins s σ H Q I h => ?_⟩
  refine PySem.W.methodCall_KW (pl := pl) (thn (he.run pins s σ H _ I h) fun u s1 ⟨x, H1, I1, rx, a, dx, fs, ex, ea, l, q⟩ => ?_) ht
  subst ex
  obtain rfl : u = Value.ref a := rx
  refine getmeth_ok I1 ea hc hm l ?_
  exact PySem.W.callWith_K0 (first := [.ref a]) I1.kIn hm.kp (run_fnS (E := fun _ => E0) (us := [.ref a]) (vs := [.ref a]) F (hr.mono hk) b passA0 I1 (.cons rfl .nil) q)
end
/-- a loop within a try: the context is known from the first proof -/
theorem ps_forT {X : Cx} {W : WX} {tg iter : Expr} {body : List Stmt} {wi : TI} {g : TG} {tb : TS} {pos : Pos} (_tk : Takes X W) (hp : PassesOwn (model X.prog X.w) X.A X.env X.xe) (hc : X.calm = true) (hi : PI X tg iter wi) (hg : PG X tg g) (hb : PSs X body tb)
    (hs : ∀ x, foldedSetIterable iter X.env x = pure x := by intro _; rfl) : PS X (.For tg iter body [] pos) (tFor wi g tb) := ps_for hp hc hi hg hb hs
/-- a try whose body is told for each way out at once: what it does is known before the context is -/
theorem ps_try_onlyP {X : Cx} {x : Str} {c : Value} {body suite : List Stmt} {b₀ : Stmt} {np pos pos' : Pos} {tb : WX → TS} {ts : Addr → Value → Option Addr → TS} {Wout : WX} (hs : X.stack = X.env :: X.outer) (hf : X.env.frame = some X.env.locals) (hc : Names X x c) (tk : Takes X Wout)
    (pk : ∀ W : WX, {t : TS // ∀ (pn : List (Addr × Obj)) (xe : Value → Shared → Prop), Takes (X.tr pn xe) W → PassesOwn (model X.prog X.w) X.A X.env xe → PSs (X.tr pn xe) body t})
    (hsu : ∀ (a : Addr) (oe : Obj) (cls : Value) (d : Option Addr) (pn : List (Addr × Obj)), Zc cls d oe → (∃ vs, oe.data = .fields vs) → PSs (X.suite a ((a, oe) :: pn)) (b₀ :: suite) (ts a cls d)) (ht : tb = fun W => (pk W).1) :
    PS X (.Try body [.ExceptHandler (some (.Name x np)) none (b₀ :: suite) pos'] [] [] pos) (fun D σ H => tb (wOnly X.K c ts Wout D) D σ H) := by
  subst ht
  exact ps_try_only (tb := fun W => (pk W).1) hs hf hc tk (fun W pn xe tk hp => (pk W).2 pn xe tk hp) hsu
end Vf

namespace GQ2
open PySem PySem.SeqAt
open AutoSeq1 (wpAny_loadPart')
open MeetsSeq MeetsSeq2 MeetsSeq3 SeqRoads2
section
variable {prog : Program} {w : World} {A : Around} {R : Result → Shared → Prop}
theorem tuple_neG (l b : Addr) (items items2 : Array Value) (n n2 : Nat) (dd dd2 : Option Addr) (sl sl2 : Array (Option Value)) (hsz : items.size = items2.size) (I : Nat → Shared → Prop)
    (turn : ∀ i (h1 : i < items.size) (h2 : i < items2.size) s, I i s → wpAny (model prog w) A.in1 (eqBool items[i] items2[i]) (fun r s' => r = true ∧ I (i + 1) s') (fun e s' => R (.error e) s') s)
    (fin : ∀ s, I items.size s → R (.ok (.ret (.bool false))) s) {s : Shared} (hl1 : s.heap.get? l = some { cls := .type "tuple", dict := dd, data := .seq items n, slots := sl }) (hb1 : s.heap.get? b = some { cls := .type "tuple", dict := dd2, data := .seq items2 n2, slots := sl2 }) (h : I 0 s) :
    wpAny (model prog w) A.in1 (Builtin.«tuple.__ne__» ⟨[.ref l, .ref b], []⟩) (GQ.FinOf prog w A R) (fun e s' => R (.error e) s') s := by
  have f2 := AutoSeq1.sub_tuple_tuple
  have hZ : (items.toList.zip items2.toList).length = items.size := by simp [hsz]
  have h0 := h
  obtain ⟨hp, g, d, tk, os⟩ := s
  wp_walk using wpAny_loadPart' hl1, wpAny_loadPart' hb1, wpAny_forIn_list _ (fun rest b s' => b.1 = none ∧ ∃ i, rest = (items.toList.zip items2.toList).drop i ∧ i ≤ items.size ∧ I i s') _
  case turn =>
    rintro ⟨y, x⟩ rest b s' ⟨hb', i, hz, hi, hI⟩
    have hlt : i < (items.toList.zip items2.toList).length := by
      rcases Nat.lt_or_ge i (items.toList.zip items2.toList).length with h' | h'
      · exact h'
      · rw [List.drop_of_length_le h'] at hz; cases hz
    have h1 : i < items.size := hZ ▸ hlt
    have h2 : i < items2.size := hsz ▸ h1
    rw [List.drop_eq_getElem_cons hlt] at hz
    injection hz with hyx hrest
    have hy : y = items[i] := by have := congrArg Prod.fst hyx; simpa using this
    have hx : x = items2[i] := by have := congrArg Prod.snd hyx; simpa using this
    subst hy hx
    refine wpAny_bind (wpAny_mono (turn i h1 h2 s' hI) (fun r s2 q2 => ?_) fun _ _ x => x)
    obtain ⟨hr, q2⟩ := q2
    subst hr
    wp_walk
    exact ⟨rfl, i + 1, hrest, h1, q2⟩
  case fin =>
    rintro ⟨b1, b2⟩ s' ⟨hb', i, hz, hi, hI⟩
    simp only at hb'
    subst hb'
    have hge : items.size ≤ i := by
      rcases Nat.lt_or_ge i (items.toList.zip items2.toList).length with h' | h'
      · rw [List.drop_eq_getElem_cons h'] at hz; cases hz
      · exact hZ ▸ h'
    have hi' : i = items.size := by omega
    have hR : R (.ok (.ret (.bool false))) s' := fin s' (hi' ▸ hI)
    wp_walk
    simpa [Builtin.Tuple.tupleCompareSizes, hsz] using hR
  case h =>
    exact ⟨rfl, 0, rfl, Nat.zero_le _, h0⟩
end
section
variable {prog : Program} {w : World} {A : Around} {E : Value → Shared → Prop} {s : Shared}
theorem rc_tupN {l b : Addr} {items items2 : Array Value} {Q : Value → Shared → Prop} (hsz : items.size = items2.size) (hu : A.units < cLine) (I : Nat → Shared → Prop)
    (hl : s.heap.IsTuple l items) (hb : s.heap.IsTuple b items2)
    (turn : ∀ i (h1 : i < items.size) (h2 : i < items2.size) s, I i s → wpAny (model prog w) A.in1 (eqBool items[i] items2[i]) (fun r s' => r = true ∧ I (i + 1) s') E s)
    (fin : ∀ s, I items.size s → Q (.bool false) s) (h : I 0 s) : wpAny (model prog w) A (richCompare .NotEq (.ref l) (.ref b)) Q E s := by
  obtain ⟨⟨cls, dd, data, sl⟩, ho, hc, n, hd⟩ := id hl
  obtain ⟨⟨cls2, dd2, data2, sl2⟩, ho2, hc2, n2, hd2⟩ := id hb
  simp only at hc hd hc2 hd2
  subst hc hd hc2 hd2
  refine wpAny_richCompare_same_room (op := .NotEq) ⟨_, ho, rfl⟩ ⟨_, ho2, rfl⟩ F.slot_tuple_ne (GQ.call_here F.slot_tuple_ne ⟨_, ho, rfl⟩ F.entry_tuple_ne (F.args_tuple_ne_2 _ _) ?_) hu
  exact tuple_neG (R := wants (fun v s' => v ≠ .notImplemented ∧ Q v s') E) l b items items2 n n2 dd dd2 sl sl2 hsz I turn (fun s' q => ⟨(fun x => nomatch x), fin s' q⟩) ho ho2 h
end
end GQ2
namespace Vf
open PySem L2 PySem.Spec PyProof.Rows He RZ
/-- x != y of two tuples whose items are all equal -/
def rNeG (D : L2.Eqv) : R2 := fun x y H Q => D x y H ∧ ∀ H', L2.Ext H H' → Q (.bl false) H'
theorem op_neG {X : Cx} {n : Nat} {D : L2.Eqv} (hD : L2.Mon D) (h : L2.EqG X n D) (hr : Room (n + 1) X.A) : OpR X (compareOp .NotEq) (rNeG (L2.DTup X.K D)) := by
  intro pins s σ H x y v u Q I rx ry hq
  obtain ⟨d, q⟩ := hq
  show wpAny (model X.prog X.w) X.A (richCompare .NotEq v u) (EP X pins σ Q) X.xe s
  obtain ⟨a, b, xs, ys, rfl, rfl, ha, hb, p⟩ := d
  cases rx
  cases ry
  have sb : L2.Sub X (n + 1) X.A := ⟨hr, rfl⟩
  obtain ⟨its, r, e, z⟩ := I.tuple ha
  obtain ⟨its2, r2, e2, z2⟩ := I.tuple hb
  have hsz : its.toArray.size = its2.toArray.size := by rw [List.size_toArray, List.size_toArray, ← r.length, ← r2.length]; exact p.1
  exact GQ2.rc_tupN hsz sb.room.units0 (fun _ s' => L2.LoopI X pins σ H s') e e2 (fun i h1 h2 s' q => L2.turnG hD h sb p r r2 i h1 h2 s' q) (fun s' l => by
    obtain ⟨H', I', ex⟩ := l
    exact ⟨.bl false, H', I', rfl, q H' ex⟩) ⟨H, I, L2.Ext.rfl'⟩
end Vf

namespace SrtO
open PySem PyProof.Rows Srt
section
variable {prog : Program} {w : World} {A : Around} {E : Value → Shared → Prop} {s : Shared}
theorem collect_tupS {l : Addr} {vs : List Value} {Q : List Value → Shared → Prop} (hl : s.heap.IsTuple l vs.toArray) (hz : vs.length ≤ sizeLine)
    (h : Q vs { s with heap := (s.heap.push (seqObj "list" #[] 0)).update s.heap.objs.size (Obj.mapSeq (· ++ vs.toArray)) }) :
    wpAny (model prog w) A (collect (.ref l)) Q E s := by
  obtain ⟨o, ho, hc, n, hd⟩ := id hl
  unfold collect
  refine wpAny_bind (wpAny_runValue (codeAny_builtin entry_proto_collect' ?_))
  show wpAny _ _ (do again (.builtin "list.__iadd__" ⟨[← newList [], .ref l], []⟩)) _ _ s
  refine wpAny_bind (wpAny_newList (wpAny_pure ⟨Code.quiet_builtin _ (by decide +kernel), codeAny_builtin entry_list_iadd' ?_⟩))
  show wpAny _ _ (Builtin.List.listExtendWith (.ref s.heap.objs.size) (.ref l) (.ref s.heap.objs.size)) _ _ { s with heap := s.heap.push (seqObj "list" #[] 0) }
  unfold Builtin.List.listExtendWith
  have ho' : (s.heap.push (seqObj "list" #[] 0)).get? l = some o := Heap.get?_push_of_some _ ho
  refine wpAny_bind (wpAny_typeOf (T := "tuple") ⟨o, ho', hc⟩ ?_)
  have ht : (Value.type "tuple" == Value.type "tuple") = true := by rfl
  rw [if_pos (by rw [ht]; simp)]
  refine wpAny_bind (listItems_at ho' hd ?_)
  refine wpAny_bind (listItems_at (xs := #[]) (n := 0) (Heap.get?_push_size _ rfl) rfl ?_)
  rw [if_neg (by simp)]
  refine wpAny_bind (listUpdate_at (xs := #[]) (n := 0) (Heap.get?_push_size _ rfl) rfl ?_ (Nat.zero_le _) (by show (#[] ++ vs.toArray).size ≤ sizeLine + 1; simp only [Array.size_append, List.size_toArray, List.length_nil]; omega))
  refine wpAny_pure ?_
  show wpAny (model prog w) A (do
      let o ← load s.heap.objs.size
      match o.data with
      | .seq xs _ => pure xs.toList
      | _ => unsupported "internal:collect") Q E { s with heap := (s.heap.push (seqObj "list" #[] 0)).update s.heap.objs.size (Obj.mapSeq (· ++ vs.toArray)) }
  refine wpAny_bind (wpAny_load (get?_update_seq (Heap.get?_push_size _ rfl) _) ?_)
  show wpAny _ _ (pure ((#[] : Array Value) ++ vs.toArray).toList) Q E _
  rw [show ((#[] : Array Value) ++ vs.toArray).toList = vs by simp]
  exact wpAny_pure h
theorem sorted_ordT {l : Addr} {vs : List Value} {ltv : Value → Value → Bool} {Q : Value → Shared → Prop} (O : Swo ltv) (hl : s.heap.IsTuple l vs.toArray) (hz : vs.length ≤ sizeLine)
    (hS : 2 ≤ vs.length → ∀ (h₁ : Heap) (a : Addr), h₁.get? a = some (seqObj "list" vs.toArray 0) → (∀ b o, s.heap.get? b = some o → b ≠ a ∧ h₁.get? b = some o) → SortableO prog w A.in1.in1 { s with heap := h₁ } a vs ltv)
    (h : ∀ out : List Value, Srtd ltv out → Stb ltv out vs → Q (.ref (s.heap.objs.size + 1)) { s with heap := sortedAll s.heap vs out.toArray }) :
    wpAny (model prog w) A (call (.builtin "sorted") [.ref l]) Q E s := by
  refine Calls.call_function_entry kind_sorted plain_sorted entry_sorted (args_sorted1 _) ?_
  unfold Builtin.«sorted»
  refine wpAny_bind (m := checkCount "sorted" 1 1 _) (wpAny_pure ?_)
  refine wpAny_bind (collect_tupS hl hz ?_)
  refine wpAny_bind (wpAny_newList ?_ hz)
  have hsz : ((s.heap.push (seqObj "list" #[] 0)).update s.heap.objs.size (Obj.mapSeq (· ++ vs.toArray))).objs.size = s.heap.objs.size + 1 := by
    rw [Heap.size_update, size_push']
  have hoL : (((s.heap.push (seqObj "list" #[] 0)).update s.heap.objs.size (Obj.mapSeq (· ++ vs.toArray))).push (seqObj "list" vs.toArray 0)).get? (s.heap.objs.size + 1) = some (seqObj "list" vs.toArray 0) := by
    rw [← hsz]; exact Heap.get?_push_size _ rfl
  have keep : ∀ b o, s.heap.get? b = some o → b ≠ s.heap.objs.size + 1 ∧ (((s.heap.push (seqObj "list" #[] 0)).update s.heap.objs.size (Obj.mapSeq (· ++ vs.toArray))).push (seqObj "list" vs.toArray 0)).get? b = some o := fun b o q => by
    have hlt : b < s.heap.objs.size := Heap.lt_size q
    refine ⟨Nat.ne_of_lt (Nat.lt_succ_of_lt hlt), Heap.get?_push_of_some _ ?_⟩
    rw [Heap.get?_update_ne _ _ _ _ (Nat.ne_of_lt hlt)]
    exact Heap.get?_push_of_some _ q
  show wpAny _ _ _ _ _ { s with heap := ((s.heap.push (seqObj "list" #[] 0)).update s.heap.objs.size (Obj.mapSeq (· ++ vs.toArray))).push (seqObj "list" vs.toArray 0) }
  rw [hsz]
  refine wpAny_bind (wpAny_holding (wpAny_call_entry slot_list_sort ⟨_, hoL, rfl⟩ entry_list_sort (list_sort_ord O hoL hz (fun h2 => hS h2 _ _ hoL keep) fun out hs hb => ⟨_, rfl, ?_⟩) (args_list_sort _)))
  exact wpAny_pure ⟨_, rfl, h out hs hb⟩
theorem sorted_pairsOT {l : Addr} {vs : List Value} {k : Value → Int × Int} {Q : Value → Shared → Prop} (hl : s.heap.IsTuple l vs.toArray) (hz : vs.length ≤ sizeLine) (hp : ∀ v ∈ vs, IsPair s.heap v (k v).1 (k v).2)
    (h : ∀ (h' : Heap) (d : Addr) (out : List Value), Srtd (fun v u => lexB (k v) (k u)) out → Stb (fun v u => lexB (k v) (k u)) out vs → (∀ b o, s.heap.get? b = some o → h'.get? b = some o) → s.heap.objs.size ≤ d → (∃ n, h'.get? d = some (seqObj "list" out.toArray n)) → Q (.ref d) { s with heap := h' }) :
    wpAny (model prog w) A (call (.builtin "sorted") [.ref l]) Q E s := by
  refine sorted_ordT (swo_lex k) hl hz (fun h2 h₁ a ha kk => ?_) fun out hs hb => ?_
  · refine pairs_sortableO (s := { s with heap := h₁ }) (by omega) (fun v hm => (hp v hm).keeps fun b o e _ => (kk b o e).2) fun o e => ?_
    have e' : some o = some (seqObj "list" vs.toArray 0) := e.symm.trans ha
    cases e'
    intro c
    exact absurd (Value.type.inj c) (by decide)
  · exact h _ _ out hs hb (fun b o e => sortedAll_old e) (Nat.le_succ _) (sortedAll_at s.heap vs out.toArray)
end
end SrtO
namespace Vf
open PySem L2 PySem.Spec PyProof.Rows He RZ
/-- sorted(t), t a tuple of pairs of ints -/
def rSortedPT (K : PySem.W.Frag) : List V → Hp → VK → Prop := fun vs H Q => ∃ (a : Addr) (xs : List V) (k : V → Int × Int), vs = [V.ref a] ∧ SqT K H a xs ∧ (∀ x ∈ xs, ∃ t, x = V.ref t ∧ H t = some (.tup [.int (k x).1, .int (k x).2])) ∧
  ∀ ys p, SrtO.Srtd (ltP k) ys → SrtO.Stb (ltP k) ys xs → H p = none → Q (.ref p) (upd H p (.lst ys))
theorem cr_sortedPT {X : Cx} : CallR X (.builtin "sorted") (rSortedPT X.K) := by
  intro pins s σ H vs us Q I r h
  obtain ⟨a, xs, k, rfl, hs, hx, q⟩ := h
  obtain ⟨its, rv, hl, hz⟩ := I.tuple hs
  obtain ⟨u, rfl, ru⟩ := vals1 r
  obtain rfl : u = Value.ref a := ru
  obtain ⟨e1, e2⟩ := refs_back rv fun x m => by
    obtain ⟨t, e, _⟩ := hx x m
    exact ⟨t, e⟩
  refine SrtO.sorted_pairsOT (k := fun u => k (backV u)) hl (by rw [← rv.length]; exact hz) (fun v hv => ?_) fun h' d out h1 h2 kp hd hn => ?_
  · obtain ⟨t, rfl⟩ := e2 v hv
    have hm : V.ref t ∈ xs := by rw [e1]; exact List.mem_map.mpr ⟨_, hv, rfl⟩
    obtain ⟨t', e, ht⟩ := hx _ hm
    cases e
    obtain ⟨_, its2, r2, o, ho, hc, n, hd⟩ := I.hok _ _ ht
    obtain ⟨u1, u2, rfl, ri, rj⟩ := vals2 r2
    obtain ⟨t1, rfl⟩ := ri
    obtain ⟨t2, rfl⟩ := rj
    exact ⟨t, o, t1, t2, n, rfl, ho, hc, hd⟩
  · have h3 : ∀ u ∈ out, ∃ a, u = Value.ref a := fun u hu => e2 u (h2.perm.mem_iff.mp hu)
    obtain ⟨n, hn⟩ := hn
    have hb : SrtO.Stb (ltP k) (out.map backV) xs := by
      rw [e1]
      exact SrtO.Stb.map (ltP_swo k) backV h2
    refine ⟨.ref d, upd H d (.lst (out.map backV)), I.laid (t' := s.toks) kp hd ⟨?_, out, n, vals_back h3, hn⟩, rfl, q _ d (SrtO.srtd_map h1) hb (I.hok.fresh hd)⟩
    rw [hb.len]
    exact hz
end Vf

namespace Vk55
open PySem PySem.Spec PyProof.Rows L2 Vf
def topS (i : Nat) : Stmt := PySem.Challenge.pw_folderkin_k55_sealed_entries_and_letters.main.body.getD i (.Pass ⟨0, 0, 0, 0⟩)
abbrev s_FolderkinError___init__ : Stmt := inClass (topS 2) 0
abbrev N_FolderkinError___init__ : List Str := ["self", "place"]
theorem sc_FolderkinError___init__ : FnScope N_FolderkinError___init__ ["self", "place"] (defScope s_FolderkinError___init__) := ⟨rfl, rfl, rfl, by decide +kernel, rfl, by decide +kernel, by decide +kernel⟩
abbrev s_block_number : Stmt := topS 6
abbrev N_block_number : List Str := ["data", "number", "byte"]
theorem sc_block_number : FnScope N_block_number ["data"] (defScope s_block_number) := ⟨rfl, rfl, rfl, by decide +kernel, rfl, by decide +kernel, by decide +kernel⟩
abbrev s_block_size : Stmt := topS 7
abbrev N_block_size : List Str := ["number", "size"]
theorem sc_block_size : FnScope N_block_size ["number"] (defScope s_block_size) := ⟨rfl, rfl, rfl, by decide +kernel, rfl, by decide +kernel, by decide +kernel⟩
abbrev s_is_block : Stmt := topS 8
abbrev N_is_block : List Str := ["number"]
theorem sc_is_block : FnScope N_is_block ["number"] (defScope s_is_block) := ⟨rfl, rfl, rfl, by decide +kernel, rfl, by decide +kernel, by decide +kernel⟩
abbrev s_block_bytes : Stmt := topS 9
abbrev N_block_bytes : List Str := ["number", "size", "behind"]
theorem sc_block_bytes : FnScope N_block_bytes ["number"] (defScope s_block_bytes) := ⟨rfl, rfl, rfl, by decide +kernel, rfl, by decide +kernel, by decide +kernel⟩
abbrev s_split : Stmt := topS 10
abbrev N_split : List Str := ["content", "at"]
theorem sc_split : FnScope N_split ["content"] (defScope s_split) := ⟨rfl, rfl, rfl, by decide +kernel, rfl, by decide +kernel, by decide +kernel⟩
abbrev s_joined : Stmt := topS 11
abbrev N_joined : List Str := ["numbers", "content", "index", "number"]
theorem sc_joined : FnScope N_joined ["numbers"] (defScope s_joined) := ⟨rfl, rfl, rfl, by decide +kernel, rfl, by decide +kernel, by decide +kernel⟩
abbrev s_count_of : Stmt := topS 13
abbrev N_count_of : List Str := ["vector", "device", "known", "count"]
theorem sc_count_of : FnScope N_count_of ["vector", "device"] (defScope s_count_of) := ⟨rfl, rfl, rfl, by decide +kernel, rfl, by decide +kernel, by decide +kernel⟩
abbrev s_join : Stmt := topS 14
abbrev N_join : List Str := ["first", "second", "counts", "device", "count"]
theorem sc_join : FnScope N_join ["first", "second"] (defScope s_join) := ⟨rfl, rfl, rfl, by decide +kernel, rfl, by decide +kernel, by decide +kernel⟩
abbrev s_vector : Stmt := topS 15
abbrev N_vector : List Str := ["counts", "device"]
theorem sc_vector : FnScope N_vector ["counts"] (defScope s_vector) := ⟨rfl, rfl, rfl, by decide +kernel, rfl, by decide +kernel, by decide +kernel⟩
abbrev s_counts_of : Stmt := topS 16
abbrev N_counts_of : List Str := ["vector", "device"]
theorem sc_counts_of : FnScope N_counts_of ["vector"] (defScope s_counts_of) := ⟨rfl, rfl, rfl, by decide +kernel, rfl, by decide +kernel, by decide +kernel⟩
abbrev s_Entry___init__ : Stmt := inClass (topS 18) 0
abbrev N_Entry___init__ : List Str := ["self", "name", "vector", "height", "maker", "deleted", "time", "blocks"]
theorem sc_Entry___init__ : FnScope N_Entry___init__ ["self", "name", "vector", "height", "maker", "deleted", "time", "blocks"] (defScope s_Entry___init__) := ⟨rfl, rfl, rfl, by decide +kernel, rfl, by decide +kernel, by decide +kernel⟩
abbrev s_Entry___eq__ : Stmt := inClass (topS 18) 1
abbrev N_Entry___eq__ : List Str := ["self", "other"]
theorem sc_Entry___eq__ : FnScope N_Entry___eq__ ["self", "other"] (defScope s_Entry___eq__) := ⟨rfl, rfl, rfl, by decide +kernel, rfl, by decide +kernel, by decide +kernel⟩
abbrev s_alike : Stmt := topS 19
abbrev N_alike : List Str := ["first", "second"]
theorem sc_alike : FnScope N_alike ["first", "second"] (defScope s_alike) := ⟨rfl, rfl, rfl, by decide +kernel, rfl, by decide +kernel, by decide +kernel⟩
abbrev s_key_of : Stmt := topS 20
abbrev N_key_of : List Str := ["entry", "device", "number", "standing"]
theorem sc_key_of : FnScope N_key_of ["entry"] (defScope s_key_of) := ⟨rfl, rfl, rfl, by decide +kernel, rfl, by decide +kernel, by decide +kernel⟩
abbrev s_winner : Stmt := topS 21
abbrev N_winner : List Str := ["entries", "best", "vector", "entry"]
theorem sc_winner : FnScope N_winner ["entries"] (defScope s_winner) := ⟨rfl, rfl, rfl, by decide +kernel, rfl, by decide +kernel, by decide +kernel⟩
abbrev s_root_of : Stmt := topS 22
abbrev N_root_of : List Str := ["name"]
theorem sc_root_of : FnScope N_root_of ["name"] (defScope s_root_of) := ⟨rfl, rfl, rfl, by decide +kernel, rfl, by decide +kernel, by decide +kernel⟩
abbrev s_copy_name : Stmt := topS 23
abbrev N_copy_name : List Str := ["entry", "device", "number"]
theorem sc_copy_name : FnScope N_copy_name ["entry"] (defScope s_copy_name) := ⟨rfl, rfl, rfl, by decide +kernel, rfl, by decide +kernel, by decide +kernel⟩
abbrev s_mixed : Stmt := topS 27
abbrev N_mixed : List Str := ["digits", "base", "key", "at", "number"]
theorem sc_mixed : FnScope N_mixed ["digits", "base", "key"] (defScope s_mixed) := ⟨rfl, rfl, rfl, by decide +kernel, rfl, by decide +kernel, by decide +kernel⟩
abbrev s_unmixed : Stmt := topS 28
abbrev N_unmixed : List Str := ["digits", "base", "key", "whole", "at", "number"]
theorem sc_unmixed : FnScope N_unmixed ["digits", "base", "key"] (defScope s_unmixed) := ⟨rfl, rfl, rfl, by decide +kernel, rfl, by decide +kernel, by decide +kernel⟩
abbrev s_factor : Stmt := topS 29
abbrev N_factor : List Str := ["number", "base", "units", "unit"]
theorem sc_factor : FnScope N_factor ["number", "base"] (defScope s_factor) := ⟨rfl, rfl, rfl, by decide +kernel, rfl, by decide +kernel, by decide +kernel⟩
abbrev s_number : Stmt := topS 30
abbrev N_number : List Str := ["digits", "base", "number", "digit"]
theorem sc_number : FnScope N_number ["digits", "base"] (defScope s_number) := ⟨rfl, rfl, rfl, by decide +kernel, rfl, by decide +kernel, by decide +kernel⟩
abbrev s_turned_digits : Stmt := topS 31
abbrev N_turned_digits : List Str := ["number", "base", "count", "digits", "_"]
theorem sc_turned_digits : FnScope N_turned_digits ["number", "base", "count"] (defScope s_turned_digits) := ⟨rfl, rfl, rfl, by decide +kernel, rfl, by decide +kernel, by decide +kernel⟩
abbrev s_power : Stmt := topS 32
abbrev N_power : List Str := ["base", "count", "whole", "_"]
theorem sc_power : FnScope N_power ["base", "count"] (defScope s_power) := ⟨rfl, rfl, rfl, by decide +kernel, rfl, by decide +kernel, by decide +kernel⟩
abbrev s_inverse : Stmt := topS 33
abbrev N_inverse : List Str := ["number", "whole", "last", "rest", "last_product", "product", "times"]
theorem sc_inverse : FnScope N_inverse ["number", "whole"] (defScope s_inverse) := ⟨rfl, rfl, rfl, by decide +kernel, rfl, by decide +kernel, by decide +kernel⟩
abbrev s_seal_name : Stmt := topS 36
abbrev N_seal_name : List Str := ["name", "key", "root"]
theorem sc_seal_name : FnScope N_seal_name ["name", "key"] (defScope s_seal_name) := ⟨rfl, rfl, rfl, by decide +kernel, rfl, by decide +kernel, by decide +kernel⟩
abbrev s_open_name : Stmt := topS 37
abbrev N_open_name : List Str := ["name", "key", "root"]
theorem sc_open_name : FnScope N_open_name ["name", "key"] (defScope s_open_name) := ⟨rfl, rfl, rfl, by decide +kernel, rfl, by decide +kernel, by decide +kernel⟩
abbrev s_digits_of : Stmt := topS 38
abbrev N_digits_of : List Str := ["root", "char"]
theorem sc_digits_of : FnScope N_digits_of ["root"] (defScope s_digits_of) := ⟨rfl, rfl, rfl, by decide +kernel, rfl, by decide +kernel, by decide +kernel⟩
abbrev s_name_of : Stmt := topS 39
abbrev N_name_of : List Str := ["digits", "digit"]
theorem sc_name_of : FnScope N_name_of ["digits"] (defScope s_name_of) := ⟨rfl, rfl, rfl, by decide +kernel, rfl, by decide +kernel, by decide +kernel⟩
abbrev s_seal_blocks : Stmt := topS 40
abbrev N_seal_blocks : List Str := ["blocks", "key", "block"]
theorem sc_seal_blocks : FnScope N_seal_blocks ["blocks", "key"] (defScope s_seal_blocks) := ⟨rfl, rfl, rfl, by decide +kernel, rfl, by decide +kernel, by decide +kernel⟩
abbrev s_open_blocks : Stmt := topS 41
abbrev N_open_blocks : List Str := ["blocks", "key", "block"]
theorem sc_open_blocks : FnScope N_open_blocks ["blocks", "key"] (defScope s_open_blocks) := ⟨rfl, rfl, rfl, by decide +kernel, rfl, by decide +kernel, by decide +kernel⟩
abbrev s_seal_content : Stmt := topS 42
abbrev N_seal_content : List Str := ["content", "key"]
theorem sc_seal_content : FnScope N_seal_content ["content", "key"] (defScope s_seal_content) := ⟨rfl, rfl, rfl, by decide +kernel, rfl, by decide +kernel, by decide +kernel⟩
abbrev s_seal_entry : Stmt := topS 43
abbrev N_seal_entry : List Str := ["entry", "key"]
theorem sc_seal_entry : FnScope N_seal_entry ["entry", "key"] (defScope s_seal_entry) := ⟨rfl, rfl, rfl, by decide +kernel, rfl, by decide +kernel, by decide +kernel⟩
abbrev s_open_entry : Stmt := topS 44
abbrev N_open_entry : List Str := ["entry", "key"]
theorem sc_open_entry : FnScope N_open_entry ["entry", "key"] (defScope s_open_entry) := ⟨rfl, rfl, rfl, by decide +kernel, rfl, by decide +kernel, by decide +kernel⟩
abbrev s_with : Stmt := topS 45
abbrev N_with : List Str := ["entry", "name", "blocks"]
theorem sc_with : FnScope N_with ["entry", "name", "blocks"] (defScope s_with) := ⟨rfl, rfl, rfl, by decide +kernel, rfl, by decide +kernel, by decide +kernel⟩
abbrev s_seal_letter : Stmt := topS 46
abbrev N_seal_letter : List Str := ["letter", "key"]
theorem sc_seal_letter : FnScope N_seal_letter ["letter", "key"] (defScope s_seal_letter) := ⟨rfl, rfl, rfl, by decide +kernel, rfl, by decide +kernel, by decide +kernel⟩
abbrev s_open_letter : Stmt := topS 47
abbrev N_open_letter : List Str := ["letter", "key"]
theorem sc_open_letter : FnScope N_open_letter ["letter", "key"] (defScope s_open_letter) := ⟨rfl, rfl, rfl, by decide +kernel, rfl, by decide +kernel, by decide +kernel⟩
abbrev s_changed : Stmt := topS 48
abbrev N_changed : List Str := ["letter", "key", "change_name", "change_entry", "change_blocks", "word", "_", "behind", "upto", "pairs", "name", "index", "block", "entry", "number"]
theorem sc_changed : FnScope N_changed ["letter", "key", "change_name", "change_entry", "change_blocks"] (defScope s_changed) := ⟨rfl, rfl, rfl, by decide +kernel, rfl, by decide +kernel, by decide +kernel⟩
abbrev s_law_draws : Stmt := topS 50
abbrev N_law_draws : List Str := ["script"]
theorem sc_law_draws : FnScope N_law_draws ["script"] (defScope s_law_draws) := ⟨rfl, rfl, rfl, by decide +kernel, rfl, by decide +kernel, by decide +kernel⟩
abbrev s_law_draw : Stmt := topS 51
abbrev N_law_draw : List Str := ["draws", "limit", "cell", "value"]
theorem sc_law_draw : FnScope N_law_draw ["draws", "limit"] (defScope s_law_draw) := ⟨rfl, rfl, rfl, by decide +kernel, rfl, by decide +kernel, by decide +kernel⟩
abbrev s_law_key : Stmt := topS 52
abbrev N_law_key : List Str := ["draws", "k"]
theorem sc_law_key : FnScope N_law_key ["draws"] (defScope s_law_key) := ⟨rfl, rfl, rfl, by decide +kernel, rfl, by decide +kernel, by decide +kernel⟩
abbrev s_law_user_name : Stmt := topS 53
abbrev N_law_user_name : List Str := ["draws", "letters", "size", "k"]
theorem sc_law_user_name : FnScope N_law_user_name ["draws"] (defScope s_law_user_name) := ⟨rfl, rfl, rfl, by decide +kernel, rfl, by decide +kernel, by decide +kernel⟩
abbrev s_law_any_name : Stmt := topS 54
abbrev N_law_any_name : List Str := ["draws", "name"]
theorem sc_law_any_name : FnScope N_law_any_name ["draws"] (defScope s_law_any_name) := ⟨rfl, rfl, rfl, by decide +kernel, rfl, by decide +kernel, by decide +kernel⟩
abbrev s_law_bytes : Stmt := topS 55
abbrev N_law_bytes : List Str := ["draws", "size", "k"]
theorem sc_law_bytes : FnScope N_law_bytes ["draws"] (defScope s_law_bytes) := ⟨rfl, rfl, rfl, by decide +kernel, rfl, by decide +kernel, by decide +kernel⟩
abbrev s_law_entry : Stmt := topS 56
abbrev N_law_entry : List Str := ["draws", "name", "vector", "maker", "content", "device"]
theorem sc_law_entry : FnScope N_law_entry ["draws", "name"] (defScope s_law_entry) := ⟨rfl, rfl, rfl, by decide +kernel, rfl, by decide +kernel, by decide +kernel⟩
abbrev s_law_sealed : Stmt := topS 57
abbrev N_law_sealed : List Str := ["entry", "key", "blocks", "block", "size", "name", "k"]
theorem sc_law_sealed : FnScope N_law_sealed ["entry", "key"] (defScope s_law_sealed) := ⟨rfl, rfl, rfl, by decide +kernel, rfl, by decide +kernel, by decide +kernel⟩
abbrev s_law_block : Stmt := topS 58
abbrev N_law_block : List Str := ["draws", "k"]
theorem sc_law_block : FnScope N_law_block ["draws"] (defScope s_law_block) := ⟨rfl, rfl, rfl, by decide +kernel, rfl, by decide +kernel, by decide +kernel⟩
abbrev s_law_sealed_block : Stmt := topS 59
abbrev N_law_sealed_block : List Str := ["block", "key"]
theorem sc_law_sealed_block : FnScope N_law_sealed_block ["block", "key"] (defScope s_law_sealed_block) := ⟨rfl, rfl, rfl, by decide +kernel, rfl, by decide +kernel, by decide +kernel⟩
abbrev s_law_data : Stmt := topS 60
abbrev N_law_data : List Str := ["block", "size", "k"]
theorem sc_law_data : FnScope N_law_data ["block"] (defScope s_law_data) := ⟨rfl, rfl, rfl, by decide +kernel, rfl, by decide +kernel, by decide +kernel⟩
abbrev s_law_letters : Stmt := topS 61
abbrev N_law_letters : List Str := ["draws", "entries", "key", "block", "other", "name", "number", "rows", "pairs", "sealed", "entry"]
theorem sc_law_letters : FnScope N_law_letters ["draws", "entries", "key"] (defScope s_law_letters) := ⟨rfl, rfl, rfl, by decide +kernel, rfl, by decide +kernel, by decide +kernel⟩
abbrev s_law : Stmt := topS 62
abbrev N_law : List Str := ["script", "draws", "key", "name", "entries", "sealed", "k", "j", "letter", "due", "entry"]
theorem sc_law : FnScope N_law ["script"] (defScope s_law) := ⟨rfl, rfl, rfl, by decide +kernel, rfl, by decide +kernel, by decide +kernel⟩
structure Txt (K : PySem.W.Frag) (mg : Str → Option Value) : Prop where
  f_abs : mg "abs" = none
  f_dict : mg "dict" = none
  f_enumerate : mg "enumerate" = none
  f_int : mg "int" = none
  f_isinstance : mg "isinstance" = none
  f_len : mg "len" = none
  f_list : mg "list" = none
  f_max : mg "max" = none
  f_range : mg "range" = none
  f_reversed : mg "reversed" = none
  f_sorted : mg "sorted" = none
  f_str : mg "str" = none
  f_tuple : mg "tuple" = none
  c_BLOCK : ∃ u, mg "BLOCK" = some u ∧ RelV (.int 4) u
  c_BYTE_BASE : ∃ u, mg "BYTE_BASE" = some u ∧ RelV (.int 256) u
  c_CHARACTERS : ∃ u, mg "CHARACTERS" = some u ∧ RelV (.str "-./0123456789ABCDEFGHIJKLMNOPQRSTUVWXYZ_abcdefghijklmnopqrstuvwxyz~") u
  c_NAME_BASE : ∃ u, mg "NAME_BASE" = some u ∧ RelV (.int 66) u
  g_open_blocks : mg "_open_blocks" = some (.ref (He.ga K "_open_blocks"))
  g_seal_blocks : mg "_seal_blocks" = some (.ref (He.ga K "_seal_blocks"))
  g_open_entry : mg "open_entry" = some (.ref (He.ga K "open_entry"))
  g_open_name : mg "open_name" = some (.ref (He.ga K "open_name"))
  g_seal_entry : mg "seal_entry" = some (.ref (He.ga K "seal_entry"))
  g_seal_name : mg "seal_name" = some (.ref (He.ga K "seal_name"))
  b_gcd : mg "gcd" = some (.builtin "math.gcd")
  cl_Entry : Cls K (He.ga K "Entry")
  g_Entry : mg "Entry" = some (.ref (He.ga K "Entry"))
  no_Entry_name : NoAttr K (He.ga K "Entry") "name"
  no_Entry_vector : NoAttr K (He.ga K "Entry") "vector"
  no_Entry_height : NoAttr K (He.ga K "Entry") "height"
  no_Entry_maker : NoAttr K (He.ga K "Entry") "maker"
  no_Entry_deleted : NoAttr K (He.ga K "Entry") "deleted"
  no_Entry_time : NoAttr K (He.ga K "Entry") "time"
  no_Entry_blocks : NoAttr K (He.ga K "Entry") "blocks"
  ct_Entry : ClsT K "Entry"
  cq_Entry : ClsL K "Entry"
  cn_Entry : NeC K "Entry"
def bnum (c : List Int) : Int := c.foldl (fun n b => n * 256 + b) 1
def bsize (n : Int) : Int := if n / 256 = 1 then 1 else if n / 65536 = 1 then 2 else if n / 16777216 = 1 then 3 else if n / 4294967296 = 1 then 4 else 0
def bbytes (n : Int) : List Int :=
  if bsize n = 1 then [n % 256] else if bsize n = 2 then [n / 256 % 256, n % 256] else if bsize n = 3 then [n / 65536 % 256, n / 256 % 256, n % 256]
  else if bsize n = 4 then [n / 16777216 % 256, n / 65536 % 256, n / 256 % 256, n % 256] else []
def isB (c : List Int) : Prop := ∀ b ∈ c, 0 ≤ b ∧ b < 256
def chunks : List Int → List (List Int)
  | [] => []
  | [a] => [[a]]
  | [a, b] => [[a, b]]
  | [a, b, c] => [[a, b, c]]
  | a :: b :: c :: d :: r => [a, b, c, d] :: chunks r
theorem chunks_flat : ∀ xs, (chunks xs).flatten = xs
  | [] => rfl
  | [a] => rfl
  | [a, b] => rfl
  | [a, b, c] => rfl
  | a :: b :: c :: d :: r => by
    show [a, b, c, d] ++ (chunks r).flatten = _
    rw [chunks_flat r]
    rfl
theorem chunks_len : ∀ xs, (chunks xs).length = (xs.length + 3) / 4
  | [] => rfl
  | [a] => by simp [chunks]
  | [a, b] => by simp [chunks]
  | [a, b, c] => by simp [chunks]
  | a :: b :: c :: d :: r => by
    have ih := chunks_len r
    show (chunks r).length + 1 = (r.length + 4 + 3) / 4
    omega
theorem chunks_get : ∀ (xs : List Int) (i : Nat), i < (xs.length + 3) / 4 → (chunks xs)[i]? = some ((xs.drop (4 * i)).take 4)
  | [], i, h => by simp at h
  | [a], i, h => by
    have e : i = 0 := by simp at h; omega
    subst e; rfl
  | [a, b], i, h => by
    have e : i = 0 := by simp at h; omega
    subst e; rfl
  | [a, b, c], i, h => by
    have e : i = 0 := by simp at h; omega
    subst e; rfl
  | a :: b :: c :: d :: r, 0, h => rfl
  | a :: b :: c :: d :: r, i + 1, h => by
    have ih := chunks_get r i (by simp at h; omega)
    show (chunks r)[i]? = _
    rw [ih]
    have e : 4 * (i + 1) = (4 * i) + 1 + 1 + 1 + 1 := by omega
    rw [e]
    rfl
theorem chunks_map (xs : List Int) : chunks xs = (List.range ((xs.length + 3) / 4)).map fun i => (xs.drop (4 * i)).take 4 := by
  refine List.ext_getElem? fun i => ?_
  by_cases h : i < (xs.length + 3) / 4
  · rw [chunks_get xs i h, List.getElem?_map, List.getElem?_range h]
    rfl
  · rw [List.getElem?_eq_none (by rw [chunks_len]; omega), List.getElem?_eq_none (by simp; omega)]
/-- a piece: one to four bytes -/
structure Piece (c : List Int) : Prop where
  b : isB c
  h1 : 1 ≤ c.length
  h4 : c.length ≤ 4
theorem chunks_piece : ∀ (xs : List Int), isB xs → ∀ c ∈ chunks xs, Piece c
  | [], _, c, h => by cases h
  | [a], hb, c, h => by
    rw [List.mem_singleton.mp h]; exact ⟨hb, by simp, by simp⟩
  | [a, b], hb, c, h => by
    rw [List.mem_singleton.mp h]; exact ⟨hb, by simp, by simp⟩
  | [a, b, c'], hb, c, h => by
    rw [List.mem_singleton.mp h]; exact ⟨hb, by simp, by simp⟩
  | a :: b :: c' :: d :: r, hb, c, h => by
    rcases List.mem_cons.mp h with e | h
    · rw [e]
      exact ⟨fun x hx => hb x (by simp at hx ⊢; rcases hx with q | q | q | q <;> simp [q]), by simp, by simp⟩
    · exact chunks_piece r (fun x hx => hb x (by simp [hx])) c h
theorem Piece.cases {c : List Int} {P : List Int → Prop} (h : Piece c) (p1 : ∀ a, 0 ≤ a ∧ a < 256 → P [a]) (p2 : ∀ a b, 0 ≤ a ∧ a < 256 → 0 ≤ b ∧ b < 256 → P [a, b])
    (p3 : ∀ a b d, 0 ≤ a ∧ a < 256 → 0 ≤ b ∧ b < 256 → 0 ≤ d ∧ d < 256 → P [a, b, d]) (p4 : ∀ a b d e, 0 ≤ a ∧ a < 256 → 0 ≤ b ∧ b < 256 → 0 ≤ d ∧ d < 256 → 0 ≤ e ∧ e < 256 → P [a, b, d, e]) : P c := by
  obtain ⟨hb, h1, h4⟩ := h
  match c, hb, h1, h4 with
  | [a], hb, _, _ => exact p1 a (hb a (by simp))
  | [a, b], hb, _, _ => exact p2 a b (hb a (by simp)) (hb b (by simp))
  | [a, b, d], hb, _, _ => exact p3 a b d (hb a (by simp)) (hb b (by simp)) (hb d (by simp))
  | [a, b, d, e], hb, _, _ => exact p4 a b d e (hb a (by simp)) (hb b (by simp)) (hb d (by simp)) (hb e (by simp))
  | _ :: _ :: _ :: _ :: _ :: _, _, _, h4 => simp at h4
theorem bnum1 (a : Int) : bnum [a] = 256 + a := by simp [bnum]
theorem bnum2 (a b : Int) : bnum [a, b] = 65536 + a * 256 + b := by simp [bnum]; omega
theorem bnum3 (a b d : Int) : bnum [a, b, d] = 16777216 + a * 65536 + b * 256 + d := by simp [bnum]; omega
theorem bnum4 (a b d e : Int) : bnum [a, b, d, e] = 4294967296 + a * 16777216 + b * 65536 + d * 256 + e := by simp [bnum]; omega
theorem bsize_bnum {c : List Int} (h : Piece c) : bsize (bnum c) = c.length := by
  refine h.cases (P := fun c => bsize (bnum c) = c.length) (fun a ha => ?_) (fun a b ha hb => ?_) (fun a b d ha hb hd => ?_) (fun a b d e ha hb hd he => ?_)
  · rw [bnum1]; unfold bsize; rw [if_pos (by omega)]; rfl
  · rw [bnum2]; unfold bsize; rw [if_neg (by omega), if_pos (by omega)]; rfl
  · rw [bnum3]; unfold bsize; rw [if_neg (by omega), if_neg (by omega), if_pos (by omega)]; rfl
  · rw [bnum4]; unfold bsize; rw [if_neg (by omega), if_neg (by omega), if_neg (by omega), if_pos (by omega)]; rfl
theorem bbytes_bnum {c : List Int} (h : Piece c) : bbytes (bnum c) = c := by
  have hs := bsize_bnum h
  unfold bbytes
  rw [hs]
  refine h.cases (P := fun c => (if (c.length : Int) = 1 then [bnum c % 256] else if (c.length : Int) = 2 then [bnum c / 256 % 256, bnum c % 256] else if (c.length : Int) = 3 then [bnum c / 65536 % 256, bnum c / 256 % 256, bnum c % 256]
    else if (c.length : Int) = 4 then [bnum c / 16777216 % 256, bnum c / 65536 % 256, bnum c / 256 % 256, bnum c % 256] else []) = c) (fun a ha => ?_) (fun a b ha hb => ?_) (fun a b d ha hb hd => ?_) (fun a b d e ha hb hd he => ?_)
  · rw [if_pos (show ((([a] : List Int).length : Nat) : Int) = 1 from rfl), bnum1]
    congr 1
    omega
  · rw [if_neg (by simp), if_pos (show ((([a, b] : List Int).length : Nat) : Int) = 2 from rfl), bnum2]
    have e1 : (65536 + a * 256 + b) / 256 % 256 = a := by omega
    have e2 : (65536 + a * 256 + b) % 256 = b := by omega
    rw [e1, e2]
  · rw [if_neg (by simp), if_neg (by simp), if_pos (show ((([a, b, d] : List Int).length : Nat) : Int) = 3 from rfl), bnum3]
    have e1 : (16777216 + a * 65536 + b * 256 + d) / 65536 % 256 = a := by omega
    have e2 : (16777216 + a * 65536 + b * 256 + d) / 256 % 256 = b := by omega
    have e3 : (16777216 + a * 65536 + b * 256 + d) % 256 = d := by omega
    rw [e1, e2, e3]
  · rw [if_neg (by simp), if_neg (by simp), if_neg (by simp), if_pos (show ((([a, b, d, e] : List Int).length : Nat) : Int) = 4 from rfl), bnum4]
    have e1 : (4294967296 + a * 16777216 + b * 65536 + d * 256 + e) / 16777216 % 256 = a := by omega
    have e2 : (4294967296 + a * 16777216 + b * 65536 + d * 256 + e) / 65536 % 256 = b := by omega
    have e3 : (4294967296 + a * 16777216 + b * 65536 + d * 256 + e) / 256 % 256 = d := by omega
    have e4 : (4294967296 + a * 16777216 + b * 65536 + d * 256 + e) % 256 = e := by omega
    rw [e1, e2, e3, e4]
theorem bnum_inj {c d : List Int} (hc : Piece c) (hd : Piece d) : bnum c = bnum d ↔ c = d :=
  ⟨fun e => by rw [← bbytes_bnum hc, ← bbytes_bnum hd, e], fun e => by rw [e]⟩
theorem flat_bytes {xs : List Int} (h : isB xs) : ((chunks xs).map bnum).flatMap bbytes = xs := by
  have q : ∀ l : List (List Int), (∀ c ∈ l, Piece c) → (l.map bnum).flatMap bbytes = l.flatten := by
    intro l
    induction l with
    | nil => intro _; rfl
    | cons c r ih =>
      intro hp
      show bbytes (bnum c) ++ (r.map bnum).flatMap bbytes = c ++ r.flatten
      rw [bbytes_bnum (hp c (List.mem_cons_self ..)), ih fun d hd => hp d (List.mem_cons_of_mem _ hd)]
  rw [q _ (chunks_piece xs h), chunks_flat]
def nums (xs : List Int) : List Int := (chunks xs).map bnum
theorem nums_inj {xs ys : List Int} (h1 : isB xs) (h2 : isB ys) : nums xs = nums ys ↔ xs = ys :=
  ⟨fun e => by rw [← flat_bytes h1, ← flat_bytes h2]; exact congrArg _ e, fun e => by rw [e]⟩
/-- the order of two rows of bytes by their pieces -/
def lessP : List (List Int) → List (List Int) → Bool
  | [], [] => false
  | [], _ :: _ => true
  | _ :: _, [] => false
  | c :: cs, d :: ds => if c = d then lessP cs ds else if c.length = d.length then HT.lexLt c d else decide (c.length < d.length)
theorem bnum_len {c d : List Int} (hc : Piece c) (hd : Piece d) (h : c.length < d.length) : bnum c < bnum d := by
  have key : ∀ c : List Int, Piece c → 256 ^ c.length ≤ bnum c ∧ bnum c < 2 * 256 ^ c.length := fun c h => by
    refine h.cases (P := fun c => 256 ^ c.length ≤ bnum c ∧ bnum c < 2 * 256 ^ c.length) (fun a ha => ?_) (fun a b ha hb => ?_) (fun a b d ha hb hd => ?_) (fun a b d e ha hb hd he => ?_)
    · rw [bnum1, show (256 : Int) ^ ([a] : List Int).length = 256 from rfl]; omega
    · rw [bnum2, show (256 : Int) ^ ([a, b] : List Int).length = 65536 from rfl]; omega
    · rw [bnum3]
      show (256 : Int) ^ 3 ≤ _ ∧ _ < 2 * (256 : Int) ^ 3
      rw [show (256 : Int) ^ 3 = 16777216 by decide +kernel]; omega
    · rw [bnum4]
      show (256 : Int) ^ 4 ≤ _ ∧ _ < 2 * (256 : Int) ^ 4
      rw [show (256 : Int) ^ 4 = 4294967296 by decide +kernel]; omega
  have k1 := (key c hc).2
  have k2 := (key d hd).1
  have l1 := hc.h1
  have l4 := hd.h4
  have e : ∀ n : Nat, 1 ≤ n → n < d.length → (2 : Int) * 256 ^ n ≤ 256 ^ d.length := fun n h1 h2 => by
    have hd4 : d.length = 2 ∨ d.length = 3 ∨ d.length = 4 := by omega
    have hn : n = 1 ∨ n = 2 ∨ n = 3 := by omega
    rcases hd4 with q | q | q <;> rcases hn with r | r | r <;> rw [q, r] <;> first | decide | (exfalso; omega)
  have := e _ l1 h
  omega
theorem bnum_lex {c d : List Int} (hc : Piece c) (hd : Piece d) (h : c.length = d.length) (hne : c ≠ d) : decide (bnum c < bnum d) = HT.lexLt c d := by
  obtain ⟨bc, c1, c4⟩ := hc
  obtain ⟨bd, d1, d4⟩ := hd
  match c, d, bc, c1, c4, bd, h, hne with
  | [a], [b], bc, _, _, bd, _, hne =>
    have h1 := bc a (by simp)
    have h2 := bd b (by simp)
    have n1 : a ≠ b := fun e => hne (by rw [e])
    rw [bnum1, bnum1]
    show _ = if a = b then false else decide (a < b)
    rw [if_neg n1]
    exact decide_eq_decide.mpr (by omega)
  | [a, a2], [b, b2], bc, _, _, bd, _, hne =>
    have h1 := bc a (by simp)
    have h2 := bd b (by simp)
    have h3 := bc a2 (by simp)
    have h4 := bd b2 (by simp)
    rw [bnum2, bnum2]
    show _ = if a = b then (if a2 = b2 then false else decide (a2 < b2)) else decide (a < b)
    by_cases n1 : a = b
    · rw [if_pos n1]
      have n2 : a2 ≠ b2 := fun e => hne (by rw [n1, e])
      rw [if_neg n2]
      exact decide_eq_decide.mpr (by omega)
    · rw [if_neg n1]
      exact decide_eq_decide.mpr (by omega)
  | [a, a2, a3], [b, b2, b3], bc, _, _, bd, _, hne =>
    have h1 := bc a (by simp)
    have h2 := bd b (by simp)
    have h3 := bc a2 (by simp)
    have h4 := bd b2 (by simp)
    have h5 := bc a3 (by simp)
    have h6 := bd b3 (by simp)
    rw [bnum3, bnum3]
    show _ = if a = b then (if a2 = b2 then (if a3 = b3 then false else decide (a3 < b3)) else decide (a2 < b2)) else decide (a < b)
    by_cases n1 : a = b
    · rw [if_pos n1]
      by_cases n2 : a2 = b2
      · rw [if_pos n2]
        have n3 : a3 ≠ b3 := fun e => hne (by rw [n1, n2, e])
        rw [if_neg n3]
        exact decide_eq_decide.mpr (by omega)
      · rw [if_neg n2]
        exact decide_eq_decide.mpr (by omega)
    · rw [if_neg n1]
      exact decide_eq_decide.mpr (by omega)
  | [a, a2, a3, a4], [b, b2, b3, b4], bc, _, _, bd, _, hne =>
    have h1 := bc a (by simp)
    have h2 := bd b (by simp)
    have h3 := bc a2 (by simp)
    have h4 := bd b2 (by simp)
    have h5 := bc a3 (by simp)
    have h6 := bd b3 (by simp)
    have h7 := bc a4 (by simp)
    have h8 := bd b4 (by simp)
    rw [bnum4, bnum4]
    show _ = if a = b then (if a2 = b2 then (if a3 = b3 then (if a4 = b4 then false else decide (a4 < b4)) else decide (a3 < b3)) else decide (a2 < b2)) else decide (a < b)
    by_cases n1 : a = b
    · rw [if_pos n1]
      by_cases n2 : a2 = b2
      · rw [if_pos n2]
        by_cases n3 : a3 = b3
        · rw [if_pos n3]
          have n4 : a4 ≠ b4 := fun e => hne (by rw [n1, n2, n3, e])
          rw [if_neg n4]
          exact decide_eq_decide.mpr (by omega)
        · rw [if_neg n3]
          exact decide_eq_decide.mpr (by omega)
      · rw [if_neg n2]
        exact decide_eq_decide.mpr (by omega)
    · rw [if_neg n1]
      exact decide_eq_decide.mpr (by omega)
theorem lex_nums : ∀ {cs ds : List (List Int)}, (∀ c ∈ cs, Piece c) → (∀ d ∈ ds, Piece d) → HT.lexLt (cs.map bnum) (ds.map bnum) = lessP cs ds
  | [], [], _, _ => rfl
  | [], _ :: _, _, _ => rfl
  | _ :: _, [], _, _ => rfl
  | c :: cs, d :: ds, h1, h2 => by
    have pc := h1 c (List.mem_cons_self ..)
    have pd := h2 d (List.mem_cons_self ..)
    have ih := lex_nums (cs := cs) (ds := ds) (fun x hx => h1 x (List.mem_cons_of_mem _ hx)) (fun x hx => h2 x (List.mem_cons_of_mem _ hx))
    show (if bnum c = bnum d then HT.lexLt (cs.map bnum) (ds.map bnum) else decide (bnum c < bnum d)) = if c = d then lessP cs ds else if c.length = d.length then HT.lexLt c d else decide (c.length < d.length)
    by_cases e : c = d
    · rw [if_pos e, if_pos (by rw [e]), ih]
    · rw [if_neg e, if_neg (fun q => e ((bnum_inj pc pd).mp q))]
      by_cases l : c.length = d.length
      · rw [if_pos l, bnum_lex pc pd l e]
      · rw [if_neg l]
        by_cases l2 : c.length < d.length
        · rw [decide_eq_true l2, decide_eq_true (bnum_len pc pd l2)]
        · have := bnum_len pd pc (by omega)
          rw [decide_eq_false l2, decide_eq_false (by omega)]
def sp_block_number (K : PySem.W.Frag) : Sp := sp1 fun a H Q => ∃ (p : Addr) (xs : List Int), a = .ref p ∧ SqL K H p (xs.map V.int) ∧ Q (.int (bnum xs)) H
def sp_block_size (K : PySem.W.Frag) : Sp := sp1 fun a H Q => ∃ n : Int, a = .int n ∧ Q (.int (bsize n)) H
def sp_is_block (K : PySem.W.Frag) : Sp := sp1 fun a H Q => ∃ n : Int, a = .int n ∧ Q (.bl (decide (0 < bsize n))) H
def sp_block_bytes (K : PySem.W.Frag) : Sp := sp1 fun a H Q => ∃ n : Int, a = .int n ∧ 0 < bsize n ∧ ∀ (p : Addr) (H' : Hp), H p = none → Same H H' → H' p = some (.lst ((bbytes n).map V.int)) → Q (.ref p) H'
def sp_split (K : PySem.W.Frag) : Sp := sp1 fun a H Q => ∃ (p : Addr) (xs : List Int), a = .ref p ∧ SqL K H p (xs.map V.int) ∧ xs.length ≤ 100000 ∧ ∀ (q : Addr) (H' : Hp), H q = none → Same H H' → H' q = some (.tup ((nums xs).map V.int)) → Q (.ref q) H'
theorem bsize_le (n : Int) : 0 ≤ bsize n ∧ bsize n ≤ 4 := by
  unfold bsize
  repeat' split
  all_goals omega
theorem bbytes_len (n : Int) : (bbytes n).length ≤ 4 := by
  unfold bbytes
  repeat' split
  all_goals simp
theorem range4 {n : Int} (h0 : 0 ≤ n) (h1 : n ≤ 1000000) : RgC 0 n 4 ((n.toNat + 3) / 4) := by
  have e : Builtin.Range.rangeSize 0 n 4 = (((n.toNat + 3) / 4 : Nat) : Int) := by
    rw [PyProof.Rows.rangeSize_pos (by decide) h0]
    omega
  refine ⟨by decide, by decide, ?_, e⟩
  unfold Builtin.Range.small
  rw [e]
  simp only [Builtin.Range.rangeFitsLong, Bool.and_eq_true, Bool.or_eq_true, decide_eq_true_eq, beq_iff_eq, show ((4 : Int) > 0) by decide, if_true]
  omega
theorem cut_chunk (xs : List Int) (i : Nat) : cutV (xs.map V.int) (some (0 + (i : Nat) * 4)) (some (0 + (i : Nat) * 4 + 4)) = ((xs.drop (4 * i)).take 4).map V.int := by
  unfold cutV
  have e1 : (0 + ((i : Nat) : Int) * 4) = ((4 * i : Nat) : Int) := by omega
  have e2 : (0 + ((i : Nat) : Int) * 4 + 4) = ((4 * i + 4 : Nat) : Int) := by omega
  rw [e2, e1, HT.sIx_nat, HT.sIx_nat, List.length_map, List.map_take, List.map_drop]
  by_cases h : 4 * i ≤ xs.length
  · rw [Nat.min_eq_left h]
    by_cases h2 : 4 * i + 4 ≤ xs.length
    · rw [Nat.min_eq_left h2, show 4 * i + 4 - 4 * i = 4 by omega]
    · rw [Nat.min_eq_right (by omega)]
      rw [List.take_of_length_le (by simp), List.take_of_length_le (by simp; omega)]
  · rw [Nat.min_eq_right (by omega), Nat.min_eq_right (by omega)]
    rw [List.drop_eq_nil_of_le (by simp), List.drop_eq_nil_of_le (by simp; omega)]
    simp
theorem bbytes_length {n : Int} (h : 0 < bsize n) : (bbytes n).length = (bsize n).toNat := by
  have h4 := (bsize_le n).2
  unfold bbytes
  by_cases e1 : bsize n = 1
  · rw [if_pos e1, e1]; rfl
  · rw [if_neg e1]
    by_cases e2 : bsize n = 2
    · rw [if_pos e2, e2]; rfl
    · rw [if_neg e2]
      by_cases e3 : bsize n = 3
      · rw [if_pos e3, e3]; rfl
      · rw [if_neg e3]
        have e4 : bsize n = 4 := by omega
        rw [if_pos e4, e4]; rfl
theorem byte_at {n : Int} {i : Nat} (h : 0 < bsize n) (hi : i < (bsize n - 0).toNat) : n / 2 ^ (8 * (0 + ((bsize n - 0).toNat : Int) - 1 + (i : Int) * -1)).toNat % 2 ^ 8 = (bbytes n).getD i 0 := by
  have h4 := (bsize_le n).2
  unfold bbytes
  by_cases e1 : bsize n = 1
  · rw [if_pos e1]
    rw [e1] at hi ⊢
    have ei : i = 0 := by omega
    subst ei
    show n / 1 % 256 = n % 256
    omega
  · rw [if_neg e1]
    by_cases e2 : bsize n = 2
    · rw [if_pos e2]
      rw [e2] at hi ⊢
      have hi2 : i < 2 := by omega
      match i, hi2 with
      | 0, _ => rfl
      | 1, _ =>
        show n / 1 % 256 = n % 256
        omega
    · rw [if_neg e2]
      by_cases e3 : bsize n = 3
      · rw [if_pos e3]
        rw [e3] at hi ⊢
        have hi2 : i < 3 := by omega
        match i, hi2 with
        | 0, _ => rfl
        | 1, _ => rfl
        | 2, _ =>
          show n / 1 % 256 = n % 256
          omega
      · rw [if_neg e3]
        have e4 : bsize n = 4 := by omega
        rw [if_pos e4]
        rw [e4] at hi ⊢
        have hi2 : i < 4 := by omega
        match i, hi2 with
        | 0, _ => rfl
        | 1, _ => rfl
        | 2, _ => rfl
        | 3, _ =>
          show n / 1 % 256 = n % 256
          omega
theorem map_getD : ∀ (l : List Int), (List.range l.length).map (fun i => V.int (l.getD i 0)) = l.map V.int := fun l => by
  refine List.ext_getElem? fun i => ?_
  by_cases h : i < l.length
  · rw [List.getElem?_map, List.getElem?_range h, List.getElem?_map, List.getElem?_eq_getElem h]
    show some (V.int (l.getD i 0)) = some (V.int l[i])
    rw [List.getD_eq_getElem?_getD, List.getElem?_eq_getElem h]
    rfl
  · rw [List.getElem?_eq_none (by simp; omega), List.getElem?_eq_none (by simp; omega)]
theorem nums_range (xs : List Int) : (nums xs).map V.int = (List.range ((xs.length + 3) / 4)).map fun i => V.int (bnum ((xs.drop (4 * i)).take 4)) := by
  unfold nums
  rw [chunks_map, List.map_map, List.map_map]
  rfl
theorem nums_len (xs : List Int) : (nums xs).length = (xs.length + 3) / 4 := by
  unfold nums
  rw [List.length_map, chunks_len]
theorem flat_len : ∀ ns : List Int, (ns.flatMap bbytes).length ≤ 4 * ns.length
  | [] => Nat.zero_le _
  | n :: r => by
    have ih := flat_len r
    have := bbytes_len n
    show (bbytes n ++ r.flatMap bbytes).length ≤ 4 * (r.length + 1)
    rw [List.length_append]
    omega
theorem same_tup {K : PySem.W.Frag} {H H' : Hp} {a : Addr} {xs : List V} (e : Same H H') (h : SqT K H a xs) : SqT K H' a xs := by
  rcases h with (h | ⟨o, h⟩) | h
  · exact .inl (.inl (e _ _ h))
  · exact .inl (.inr ⟨o, e _ _ h⟩)
  · exact .inr h
theorem cut_chunk2 (xs : List Int) (i : Nat) : cutV (xs.map V.int) (some (4 * (0 + (i : Nat)))) (some (4 * (0 + (i : Nat)) + 4)) = ((xs.drop (4 * i)).take 4).map V.int := by
  have e : (4 * (0 + ((i : Nat) : Int))) = 0 + (i : Nat) * 4 := by omega
  rw [e]; exact cut_chunk xs i
theorem nums_at {xs : List Int} {i : Nat} (h : i < (xs.length + 3) / 4) : (nums xs)[i]? = some (bnum ((xs.drop (4 * i)).take 4)) := by
  rw [nums, List.getElem?_map, chunks_get xs i h]; rfl
theorem nums_get {xs : List Int} {i : Nat} (h : i < (xs.length + 3) / 4) : atI ((nums xs).map V.int) (0 + (i : Nat)) = some (.int (bnum ((xs.drop (4 * i)).take 4))) :=
  at_of (j := i) (by omega) (by rw [List.getElem?_map, nums_at h]; rfl)
theorem chunk_piece {xs : List Int} (hb : isB xs) {i : Nat} (h : i < (xs.length + 3) / 4) : Piece ((xs.drop (4 * i)).take 4) :=
  chunks_piece xs hb _ (List.mem_of_getElem? (chunks_get xs i h))
theorem nums_pos {xs : List Int} (hb : isB xs) : ∀ n ∈ nums xs, 0 < bsize n := fun n hn => by
  obtain ⟨c, hc, rfl⟩ := List.mem_map.mp hn
  have q := chunks_piece xs hb c hc
  have := q.h1
  rw [bsize_bnum q]
  omega
theorem nums_len' (xs : List Int) : (nums xs).length = (xs.length + 3) / 4 := by rw [nums, List.length_map, chunks_len]
/-- blocks of one content -/
def isBlocks (ns : List Int) : Bool := decide (ns.length ≤ 255) && ns.dropLast.all (fun n => decide (bsize n = 4)) && (decide (ns = []) || decide (0 < bsize (ns.getLastD 0)))
theorem isBl_long {ns : List Int} (h : 255 < ns.length) : isBlocks ns = false := by
  unfold isBlocks
  rw [decide_eq_false (by omega)]
  rfl
theorem isBl_bad {ns : List Int} {x : Int} (h : x ∈ ns.dropLast) (h2 : ¬ bsize x = 4) : isBlocks ns = false := by
  unfold isBlocks
  have e : (ns.dropLast.all fun n => decide (bsize n = 4)) = false := by
    rw [List.all_eq_false]
    exact ⟨x, h, by rw [decide_eq_false h2]; exact Bool.false_ne_true⟩
  rw [e, Bool.and_false, Bool.false_and]
theorem isBl_end {ns : List Int} (h1 : ns.length ≤ 255) (h2 : ∀ n ∈ ns.dropLast, bsize n = 4) : isBlocks ns = (decide (ns = []) || decide (0 < bsize (ns.getLastD 0))) := by
  unfold isBlocks
  have e : (ns.dropLast.all fun n => decide (bsize n = 4)) = true := by
    rw [List.all_eq_true]
    exact fun n hn => decide_eq_true (h2 n hn)
  rw [e, decide_eq_true h1]
  rfl
theorem isBl_nums {xs : List Int} (hb : isB xs) (hl : xs.length ≤ 1020) : isBlocks (nums xs) = true := by
  have n1 := nums_len' xs
  rw [isBl_end (by omega) fun n hn => ?_]
  · by_cases e : nums xs = []
    · rw [decide_eq_true e]; rfl
    · have hm : (nums xs).getLastD 0 ∈ nums xs := by
        rw [List.getLastD_eq_getLast?, List.getLast?_eq_some_getLast e]
        exact List.getLast_mem e
      rw [decide_eq_true (nums_pos hb _ hm), Bool.or_true]
  · obtain ⟨i, hi⟩ := List.getElem?_of_mem hn
    rw [List.getElem?_dropLast] at hi
    split at hi
    · rename_i h2
      have h3 : i < (xs.length + 3) / 4 := by omega
      rw [nums_at h3] at hi
      rw [← Option.some.inj hi, bsize_bnum (chunk_piece hb h3), List.length_take, List.length_drop]
      omega
    · cases hi
theorem cut_last (xs : List V) : cutV xs none (some (-1)) = xs.dropLast := by
  unfold cutV
  have e : HT.sIx xs.length xs.length (some (-1)) = xs.length - 1 := by
    show (if (-1 : Int) < 0 then ((-1 : Int) + (xs.length : Int)).toNat else min (-1 : Int).toNat xs.length) = _
    rw [if_pos (by decide)]
    omega
  rw [e, HT.sIx_none, List.drop_zero, Nat.sub_zero, List.dropLast_eq_take]
theorem e_slA {K : PySem.W.Frag} {H : Hp} {Q : VK} {p : Addr} {xs : List V} {lo hi : Option Int} (h : SqT K H p xs) (q : ∀ r H', Same H H' → SqT K H' r (cutV xs lo hi) → Q (.ref r) H') : rSlA K (.ref p) lo hi H Q := by
  refine ⟨p, xs, rfl, h, fun w => q p H (Same.refl H) ?_, fun _ r hr => q r _ (same_new hr) (SqT.of upd_same)⟩
  have e : cutV xs lo hi = xs := by
    unfold cutV
    rw [w.1, w.2, List.drop_zero, Nat.sub_zero, List.take_length]
  rw [e]; exact h
theorem last_at {ns : List Int} (h : ¬ ns = []) : atI (ns.map V.int) (-1) = some (.int (ns.getLastD 0)) := by
  have e : ns = ns.dropLast ++ [ns.getLast h] := (List.dropLast_concat_getLast h).symm
  have e2 : ns.getLastD 0 = ns.getLast h := by
    rw [List.getLastD_eq_getLast?, List.getLast?_eq_some_getLast h]; rfl
  rw [e2]
  have e3 : ns.map V.int = ns.dropLast.map V.int ++ [V.int (ns.getLast h)] := by
    rw [← List.map_singleton, ← List.map_append, ← e]
  rw [e3]
  exact atI_last _ _
theorem map_dropLast (ns : List Int) : (ns.map V.int).dropLast = ns.dropLast.map V.int := (List.map_dropLast ..).symm
def sp_is_blocks (K : PySem.W.Frag) : Sp := sp1 fun a H Q => ∃ (p : Addr) (ns : List Int), a = .ref p ∧ SqE K H p (ns.map V.int) ∧ ∀ H', Same H H' → Q (.bl (isBlocks ns)) H'
def sp_law_integers (K : PySem.W.Frag) : Sp := sp1 fun a H Q => ∃ (p : Addr) (ns : List Int), a = .ref p ∧ SqE K H p (ns.map V.int) ∧ Q (.bl true) H
/-- a list of rows of ints -/
def Lol (H : Hp) (D : Addr) (cs : List (List Int)) : Prop := ∃ ps : List Addr, H D = some (.lst (ps.map V.ref)) ∧ ps.length = cs.length ∧ ∀ (i : Nat) (p : Addr) (c : List Int), ps[i]? = some p → cs[i]? = some c → H p = some (.lst (c.map V.int))
/-! ### digits -/
def dnum (b : Int) (ds : List Int) : Int := ds.foldl (fun n d => n * b + d) 0
def low (b : Int) : Nat → Int → List Int
  | 0, _ => []
  | n + 1, x => x % b :: low b n (x / b)
def isD (b : Int) (ds : List Int) : Prop := ∀ d ∈ ds, 0 ≤ d ∧ d < b
theorem low_len (b : Int) : ∀ (n : Nat) (x : Int), (low b n x).length = n
  | 0, _ => rfl
  | n + 1, x => congrArg (· + 1) (low_len b n (x / b))
theorem low_isD {b : Int} (hb : 0 < b) : ∀ (n : Nat) (x : Int), isD b (low b n x)
  | 0, _ => fun d h => by cases h
  | n + 1, x => fun d h => by
    rcases List.mem_cons.mp h with rfl | h
    · exact ⟨Int.emod_nonneg _ (by omega), Int.emod_lt_of_pos _ hb⟩
    · exact low_isD hb n _ d h
theorem dnum_snoc (b : Int) (es : List Int) (d : Int) : dnum b (es ++ [d]) = dnum b es * b + d := by
  unfold dnum
  rw [List.foldl_append]
  rfl
theorem pw_pos {b : Int} (hb : 0 < b) : ∀ n : Nat, 0 < b ^ n
  | 0 => by rw [Int.pow_zero]; decide
  | n + 1 => by rw [Int.pow_succ]; exact Int.mul_pos (pw_pos hb n) hb
theorem mod_split {b M x : Int} (hb : 0 < b) (hM : 0 < M) : (x / b % M) * b + x % b = x % (M * b) := by
  have h1 := Int.mul_ediv_add_emod x b
  have h2 := Int.mul_ediv_add_emod (x / b) M
  have l0 := Int.emod_nonneg (x / b) (show M ≠ 0 by omega)
  have l1 := Int.emod_lt_of_pos (x / b) hM
  have k0 := Int.emod_nonneg x (show b ≠ 0 by omega)
  have k1 := Int.emod_lt_of_pos x hb
  generalize hx : x % b = r at *
  generalize hy : x / b % M = r2 at *
  generalize x / b = q at *
  generalize q / M = q2 at *
  have e : x = (r2 * b + r) + M * b * q2 := by grind
  have lo : 0 ≤ r2 * b := Int.mul_nonneg l0 (by omega)
  have hi : r2 * b ≤ (M - 1) * b := Int.mul_le_mul_of_nonneg_right (by omega) (by omega)
  have hi2 : (M - 1) * b = M * b - b := by grind
  rw [e, Int.add_mul_emod_self_left, Int.emod_eq_of_lt (by omega) (by omega)]
theorem dnum_low {b : Int} (hb : 0 < b) : ∀ (n : Nat) (x : Int), dnum b (low b n x).reverse = x % b ^ n
  | 0, x => by rw [Int.pow_zero, Int.emod_one]; rfl
  | n + 1, x => by
    show dnum b (x % b :: low b n (x / b)).reverse = _
    rw [List.reverse_cons, dnum_snoc, dnum_low hb n, Int.pow_succ, mod_split hb (pw_pos hb n)]
theorem low_rev {b : Int} (hb : 0 < b) : ∀ (es : List Int), isD b es → low b es.length (dnum b es.reverse) = es
  | [], _ => rfl
  | d :: es, h => by
    have hd := h d (List.mem_cons_self ..)
    have ih := low_rev hb es fun x hx => h x (List.mem_cons_of_mem _ hx)
    rw [List.reverse_cons, dnum_snoc]
    show (dnum b es.reverse * b + d) % b :: low b es.length ((dnum b es.reverse * b + d) / b) = _
    have e1 : (dnum b es.reverse * b + d) % b = d := by
      rw [Int.add_comm, Int.add_mul_emod_self_right, Int.emod_eq_of_lt hd.1 hd.2]
    have e2 : (dnum b es.reverse * b + d) / b = dnum b es.reverse := by
      rw [Int.add_comm, Int.add_mul_ediv_right _ _ (by omega), Int.ediv_eq_zero_of_lt hd.1 hd.2, Int.zero_add]
    rw [e1, e2, ih]
theorem isD_rev {b : Int} {ds : List Int} (h : isD b ds) : isD b ds.reverse := fun d hd => h d (List.mem_reverse.mp hd)
theorem low_dnum {b : Int} (hb : 0 < b) {ds : List Int} (h : isD b ds) : low b ds.length (dnum b ds) = ds.reverse := by
  have := low_rev hb ds.reverse (isD_rev h)
  rw [List.reverse_reverse, List.length_reverse] at this
  exact this
theorem dnum_lt {b : Int} (hb : 0 < b) {ds : List Int} (h : isD b ds) : 0 ≤ dnum b ds ∧ dnum b ds % b ^ ds.length = dnum b ds := by
  have := dnum_low hb ds.length (dnum b ds)
  rw [low_dnum hb h, List.reverse_reverse] at this
  have p := pw_pos hb ds.length
  exact ⟨by rw [this]; exact Int.emod_nonneg _ (by omega), this.symm⟩
theorem low_mod {b : Int} (hb : 0 < b) (n : Nat) (x : Int) : low b n (x % b ^ n) = low b n x := by
  have h := low_rev hb (low b n x) (low_isD hb n x)
  rw [low_len, dnum_low hb] at h
  exact h
theorem low_cg {b : Int} (hb : 0 < b) (n : Nat) {x y q : Int} (h : x = y + b ^ n * q) : low b n x = low b n y := by
  rw [← low_mod hb n x, ← low_mod hb n y, h, Int.add_mul_emod_self_left]
theorem dnum_inj {b : Int} (hb : 0 < b) {ds es : List Int} (h1 : isD b ds) (h2 : isD b es) (hl : ds.length = es.length) (h : dnum b ds = dnum b es) : ds = es := by
  have e1 := low_dnum hb h1
  have e2 := low_dnum hb h2
  rw [h, hl, e2] at e1
  exact (List.reverse_inj.mp e1).symm
/-! ### the mixing -/
def uns : List Int := [1, 5, 7, 13, 17, 19, 23, 25, 29, 31, 35, 37, 41, 43, 47, 49, 53, 59, 61, 65]
def fac (b x : Int) : Int := if b = 256 then 2 * x + 1 else 66 * (x / 20) + uns.getD (x % 20).toNat 0
def mst (b f k : Int) (ds : List Int) : List Int := low b ds.length (dnum b ds * f + k)
def Base (b : Int) : Prop := b = 66 ∨ b = 256
theorem Base.pos {b : Int} (h : Base b) : 0 < b := by
  rcases h with rfl | rfl <;> decide
theorem uns_cop : ∀ u ∈ uns, 0 < u ∧ Nat.gcd 66 u.toNat = 1 := by decide
theorem uns_get {x : Int} : uns.getD (x % 20).toNat 0 ∈ uns := by
  have h0 := Int.emod_nonneg x (show (20 : Int) ≠ 0 by decide)
  have h1 := Int.emod_lt_of_pos x (show (0 : Int) < 20 by decide)
  have hl : (x % 20).toNat < uns.length := by show _ < 20; omega
  rw [List.getD_eq_getElem?_getD, List.getElem?_eq_getElem hl]
  exact List.getElem_mem hl
theorem fac_cop {b x : Int} (hb : Base b) (hx : 0 ≤ x) : 0 < fac b x ∧ ∀ n : Nat, Nat.gcd (b ^ n).toNat (fac b x).toNat = 1 := by
  rcases hb with rfl | rfl
  · have hu := uns_cop _ (uns_get (x := x))
    have h2 : 0 ≤ x / 20 := Int.ediv_nonneg hx (by decide)
    have e : fac 66 x = 66 * (x / 20) + uns.getD (x % 20).toNat 0 := if_neg (by decide)
    generalize uns.getD (x % 20).toNat 0 = u at *
    refine ⟨by omega, fun n => ?_⟩
    have e2 : (fac 66 x).toNat = 66 * (x / 20).toNat + u.toNat := by omega
    have e3 : ((66 : Int) ^ n).toNat = 66 ^ n := by
      have : ((66 : Int) ^ n) = ((66 ^ n : Nat) : Int) := by rw [Int.natCast_pow]; rfl
      rw [this]; rfl
    rw [e2, e3]
    refine Nat.Coprime.pow_left n ?_
    show Nat.gcd 66 _ = 1
    rw [Nat.gcd_mul_left_add_right]
    exact hu.2
  · have e : fac 256 x = 2 * x + 1 := if_pos rfl
    refine ⟨by omega, fun n => ?_⟩
    have e2 : (fac 256 x).toNat = 2 * x.toNat + 1 := by omega
    have e3 : ((256 : Int) ^ n).toNat = (2 ^ 8) ^ n := by
      have : ((256 : Int) ^ n) = ((256 ^ n : Nat) : Int) := by rw [Int.natCast_pow]; rfl
      rw [this]; rfl
    rw [e2, e3]
    refine Nat.Coprime.pow_left n (Nat.Coprime.pow_left 8 ?_)
    show Nat.gcd 2 _ = 1
    rw [Nat.gcd_mul_left_add_right]
    rfl
theorem mst_len (b f k : Int) (ds : List Int) : (mst b f k ds).length = ds.length := low_len ..
theorem mst_isD {b : Int} (hb : 0 < b) (f k : Int) (ds : List Int) : isD b (mst b f k ds) := low_isD hb _ _
theorem mst_inj {b f k : Int} (hb : 0 < b) {ds es : List Int} (h1 : isD b ds) (h2 : isD b es) (hl : ds.length = es.length) (hf : 0 < f) (hc : Nat.gcd (b ^ ds.length).toNat f.toNat = 1) (h : mst b f k ds = mst b f k es) : ds = es := by
  have p := pw_pos hb ds.length
  have e := congrArg (fun l : List Int => dnum b l.reverse) h
  unfold mst at e
  rw [dnum_low hb, dnum_low hb, ← hl] at e
  have d1 := dnum_lt hb h1
  have d2 := dnum_lt hb h2
  rw [← hl] at d2
  refine dnum_inj hb h1 h2 hl ?_
  have dv : b ^ ds.length ∣ (dnum b ds * f + k) - (dnum b es * f + k) := Int.dvd_of_emod_eq_zero (Int.emod_eq_emod_iff_emod_sub_eq_zero.mp e)
  have dv2 : b ^ ds.length ∣ (dnum b ds - dnum b es) * f := by
    have : (dnum b ds * f + k) - (dnum b es * f + k) = (dnum b ds - dnum b es) * f := by grind
    rw [← this]; exact dv
  have dv3 : (b ^ ds.length).natAbs ∣ (dnum b ds - dnum b es).natAbs := by
    have h3 := Int.natAbs_dvd_natAbs.mpr dv2
    rw [Int.natAbs_mul] at h3
    refine Nat.Coprime.dvd_of_dvd_mul_right (k := (b ^ ds.length).natAbs) (n := f.natAbs) ?_ h3
    have q1 : (b ^ ds.length).natAbs = (b ^ ds.length).toNat := by omega
    have q2 : f.natAbs = f.toNat := by omega
    rw [q1, q2]; exact hc
  have dv4 := Int.natAbs_dvd_natAbs.mp dv3
  have e5 := Int.emod_eq_emod_iff_emod_sub_eq_zero.mpr (Int.emod_eq_zero_of_dvd dv4)
  rw [d1.2, d2.2] at e5
  exact e5
/-- one step back -/
def ust (b g k : Int) (ds : List Int) : List Int := (low b ds.length ((dnum b ds.reverse - k) * g)).reverse
theorem ust_len (b g k : Int) (ds : List Int) : (ust b g k ds).length = ds.length := by
  unfold ust
  rw [List.length_reverse, low_len]
theorem ust_isD {b : Int} (hb : 0 < b) (g k : Int) (ds : List Int) : isD b (ust b g k ds) := isD_rev (low_isD hb _ _)
theorem mst_ust {b f g k q : Int} (hb : 0 < b) {ds : List Int} (h : isD b ds) (hg : f * g = 1 + b ^ ds.length * q) : mst b f k (ust b g k ds) = ds := by
  unfold mst
  rw [ust_len]
  have e := dnum_low hb ds.length ((dnum b ds.reverse - k) * g)
  show low b ds.length (dnum b (low b ds.length _).reverse * f + k) = ds
  rw [e]
  have dm := Int.mul_ediv_add_emod ((dnum b ds.reverse - k) * g) (b ^ ds.length)
  generalize (dnum b ds.reverse - k) * g % b ^ ds.length = r at *
  generalize (dnum b ds.reverse - k) * g / b ^ ds.length = R at *
  have key : r * f + k = dnum b ds.reverse + b ^ ds.length * ((dnum b ds.reverse - k) * q - R * f) := by grind
  rw [low_cg hb _ key]
  have := low_dnum hb (isD_rev h)
  rw [List.length_reverse, List.reverse_reverse] at this
  exact this
def stp (b : Int) (ks : List Int) (t : Nat) (ds : List Int) : List Int := mst b (fac b (ks.getD (2 * t) 0)) (ks.getD (2 * t + 1) 0) ds
def mixN (b : Int) (ks : List Int) (ds : List Int) : Nat → List Int
  | 0 => ds
  | i + 1 => stp b ks i (mixN b ks ds i)
def mix (b : Int) (ks ds : List Int) : List Int := mixN b ks ds 4
def mixF (b : Int) (ks : List Int) : Nat → List Int → List Int
  | 0, ds => ds
  | i + 1, ds => mixF b ks i (stp b ks (3 - i) ds)
theorem mixF_4 (b : Int) (ks ds : List Int) : mixF b ks 4 ds = mix b ks ds := rfl
theorem mixN_ok {b : Int} (hb : Base b) (ks : List Int) {ds : List Int} (h : isD b ds) : ∀ i, isD b (mixN b ks ds i) ∧ (mixN b ks ds i).length = ds.length
  | 0 => ⟨h, rfl⟩
  | i + 1 => ⟨mst_isD hb.pos _ _ _, (mst_len ..).trans (mixN_ok hb ks h i).2⟩
def IsKey (ks : List Int) : Prop := ks.length = 8 ∧ ∀ k ∈ ks, 0 ≤ k ∧ k ≤ 4294967295
theorem IsKey.nn {ks : List Int} (h : IsKey ks) (i : Nat) : 0 ≤ ks.getD i 0 := by
  rw [List.getD_eq_getElem?_getD]
  by_cases hi : i < ks.length
  · rw [List.getElem?_eq_getElem hi]
    exact (h.2 _ (List.getElem_mem hi)).1
  · rw [List.getElem?_eq_none (by omega)]
    exact Int.le_refl 0
theorem stp_inj {b : Int} (hb : Base b) {ks : List Int} (hk : IsKey ks) (t : Nat) {ds es : List Int} (h1 : isD b ds) (h2 : isD b es) (hl : ds.length = es.length) (h : stp b ks t ds = stp b ks t es) : ds = es :=
  mst_inj hb.pos h1 h2 hl (fac_cop hb (hk.nn _)).1 ((fac_cop hb (hk.nn _)).2 _) h
theorem mix_inj {b : Int} (hb : Base b) {ks : List Int} (hk : IsKey ks) {ds es : List Int} (h1 : isD b ds) (h2 : isD b es) (hl : ds.length = es.length) (h : mix b ks ds = mix b ks es) : ds = es := by
  have go : ∀ i, mixN b ks ds i = mixN b ks es i → ds = es := by
    intro i
    induction i with
    | zero => exact fun e => e
    | succ i ih =>
      intro e
      have a1 := mixN_ok hb ks h1 i
      have a2 := mixN_ok hb ks h2 i
      exact ih (stp_inj hb hk i a1.1 a2.1 (by rw [a1.2, a2.2, hl]) e)
  exact go 4 h
theorem mix_isD {b : Int} (hb : Base b) (ks : List Int) {ds : List Int} (h : isD b ds) : isD b (mix b ks ds) := (mixN_ok hb ks h 4).1
theorem mix_len {b : Int} (hb : Base b) (ks : List Int) {ds : List Int} (h : isD b ds) : (mix b ks ds).length = ds.length := (mixN_ok hb ks h 4).2
/-- the loop of the inverse: one turn -/
structure Eu (n w : Int) (la re lp p : Int) : Prop where
  a : ∃ x y : Nat, la = x ∧ re = y ∧ Nat.gcd x y = 1 ∧ 1 ≤ x
  r : ∃ q, p * n = re + w * q
  l : ∃ q, lp * n = la + w * q
  b : (lp.natAbs : Int) * re + (p.natAbs : Int) * la ≤ w
  m : 1 < la ∧ la ≤ w ∧ 0 ≤ re ∧ re < la
theorem Eu.step {n w la re lp p : Int} (h : Eu n w la re lp p) (hr : 1 < re) : Eu n w re (la - la / re * re) p (lp - la / re * p) ∧ 0 ≤ la - la / re * re ∧ la - la / re * re < re := by
  obtain ⟨x, y, rfl, rfl, hg, hx⟩ := h.a
  obtain ⟨q1, h1⟩ := h.r
  obtain ⟨q2, h2⟩ := h.l
  have e : ((x : Int) - (x : Int) / (y : Int) * (y : Int)) = ((x % y : Nat) : Int) := by
    have := Int.mul_ediv_add_emod (x : Int) (y : Int)
    rw [Int.natCast_emod]
    rw [Int.mul_comm] at this
    omega
  have hy : 0 < y := by omega
  have hlt := Nat.mod_lt x hy
  have hm := h.m
  refine ⟨⟨⟨y, x % y, rfl, e, ?_, by omega⟩, ⟨q2 - (x : Int) / y * q1, ?_⟩, ⟨q1, h1⟩, ?_, by omega, by omega, by omega, by omega⟩, by omega, by omega⟩
  · rw [Nat.gcd_comm, Nat.gcd_comm] at hg
    rw [Nat.gcd_comm, ← Nat.gcd_rec, Nat.gcd_comm]
    exact hg
  · generalize (x : Int) / (y : Int) = t at *
    grind
  · have hb := h.b
    have ht : 0 ≤ (x : Int) / (y : Int) := Int.ediv_nonneg (by omega) (by omega)
    have k1 : ((lp - (x : Int) / (y : Int) * p).natAbs : Int) ≤ (lp.natAbs : Int) + (x : Int) / (y : Int) * (p.natAbs : Int) := by
      have a1 := Int.natAbs_sub_le lp ((x : Int) / (y : Int) * p)
      rw [Int.natAbs_mul] at a1
      have a2 : (((x : Int) / (y : Int)).natAbs : Int) = (x : Int) / (y : Int) := Int.natAbs_of_nonneg ht
      have a3 : (((lp.natAbs + ((x : Int) / (y : Int)).natAbs * p.natAbs : Nat)) : Int) = (lp.natAbs : Int) + (x : Int) / (y : Int) * (p.natAbs : Int) := by
        rw [Int.natCast_add, Int.natCast_mul, a2]
      omega
    have k2 := Int.mul_le_mul_of_nonneg_right k1 (show (0 : Int) ≤ (y : Int) by omega)
    generalize (x : Int) / (y : Int) = t at *
    have k3 : (p.natAbs : Int) * ((x : Int) - t * y) + ((lp.natAbs : Int) + t * (p.natAbs : Int)) * y = (lp.natAbs : Int) * y + (p.natAbs : Int) * x := by grind
    omega
theorem Eu.start {n w : Int} (hn : 0 < n) (hw : 1 < w) (hg : Nat.gcd w.toNat n.toNat = 1) : Eu n w w (n % w) 0 1 := by
  refine ⟨⟨w.toNat, n.toNat % w.toNat, by omega, ?_, ?_, by omega⟩, ⟨n / w, ?_⟩, ⟨-1, ?_⟩, ?_, hw, Int.le_refl _, Int.emod_nonneg _ (by omega), Int.emod_lt_of_pos _ (by omega)⟩
  · rw [Int.natCast_emod]
    rw [Int.toNat_of_nonneg (by omega), Int.toNat_of_nonneg (by omega)]
  · rw [Nat.gcd_comm, ← Nat.gcd_rec]
    exact hg
  · have := Int.mul_ediv_add_emod n w
    omega
  · omega
  · show ((0 : Nat) : Int) * _ + ((1 : Nat) : Int) * w ≤ w
    omega
theorem Eu.fin {n w la re lp p : Int} (h : Eu n w la re lp p) (hr : ¬ 1 < re) : ∃ q, n * p = 1 + w * q := by
  obtain ⟨x, y, rfl, rfl, hg, hx⟩ := h.a
  obtain ⟨q1, h1⟩ := h.r
  have hm := h.m
  have : y = 0 ∨ y = 1 := by omega
  rcases this with rfl | rfl
  · rw [Nat.gcd_zero_right] at hg
    omega
  · exact ⟨q1, by rw [Int.mul_comm]; exact h1⟩
theorem abs_le_of_mul {a b w : Int} (h : 0 ≤ a) (hb : 1 ≤ b) (hm : a * b ≤ w) : a ≤ w := by
  have := Int.mul_le_mul_of_nonneg_left hb h
  rw [Int.mul_one] at this
  omega
theorem Eu.abs {n w la re lp p : Int} (h : Eu n w la re lp p) : (p.natAbs : Int) ≤ w := by
  have hb := h.b
  have hm := h.m
  have k1 := Int.mul_nonneg (show (0 : Int) ≤ (lp.natAbs : Int) by omega) hm.2.2.1
  exact abs_le_of_mul (by omega) (show 1 ≤ la by omega) (by omega)
theorem fac_lt {n x : Int} (hn : Base n) (h0 : 0 ≤ x) (h1 : x < 4294967296) : 0 < fac n x ∧ fac n x < 18446744073709551616 := by
  refine ⟨(fac_cop hn h0).1, ?_⟩
  unfold fac
  split
  · omega
  · have hu : ∀ u ∈ uns, u < 66 := by decide
    have := hu _ (uns_get (x := x))
    omega
def shr (n : Int) : Nat → Int → Int
  | 0, x => x
  | i + 1, x => shr n i x / n
theorem shr_next (n : Int) : ∀ (i : Nat) (x : Int), shr n i (x / n) = shr n (i + 1) x
  | 0, _ => rfl
  | i + 1, x => congrArg (· / n) (shr_next n i x)
theorem low_snoc (n : Int) : ∀ (i : Nat) (x : Int), low n (i + 1) x = low n i x ++ [shr n i x % n]
  | 0, _ => rfl
  | i + 1, x => by
    show x % n :: low n (i + 1) (x / n) = x % n :: low n i (x / n) ++ [shr n (i + 1) x % n]
    rw [low_snoc n i, shr_next]
    rfl
theorem IsKey.lt {ks : List Int} (h : IsKey ks) (i : Nat) : ks.getD i 0 < 4294967296 := by
  rw [List.getD_eq_getElem?_getD]
  by_cases hi : i < ks.length
  · rw [List.getElem?_eq_getElem hi]
    have := (h.2 _ (List.getElem_mem hi)).2
    show ks[i] < _
    omega
  · rw [List.getElem?_eq_none (by omega)]
    decide
theorem pow_mono {n : Int} (hn : 1 ≤ n) : ∀ {a b : Nat}, a ≤ b → n ^ a ≤ n ^ b := by
  intro a b h
  induction b with
  | zero =>
    have : a = 0 := by omega
    rw [this]
    exact Int.le_refl _
  | succ b ih =>
    by_cases h2 : a = b + 1
    · rw [h2]
      exact Int.le_refl _
    · have i1 := ih (by omega)
      have p := pw_pos (b := n) (by omega) b
      rw [Int.pow_succ]
      have := Int.mul_le_mul_of_nonneg_left hn (show (0 : Int) ≤ n ^ b by omega)
      omega
theorem pow_bd {n : Int} {m : Nat} (hn : Base n) (h : (n = 66 ∧ m ≤ 27) ∨ m ≤ 4) (h1 : 1 ≤ m) : 1 < n ^ m ∧ n ^ m < 2 ^ 199 := by
  have hn2 : 66 ≤ n := by rcases hn with rfl | rfl <;> decide
  have l := pow_mono (n := n) (by omega) h1
  rw [Int.pow_succ, Int.pow_zero, Int.one_mul] at l
  refine ⟨by omega, ?_⟩
  rcases h with ⟨rfl, h⟩ | h
  · have u := pow_mono (n := 66) (by decide) h
    have : (66 : Int) ^ 27 < 2 ^ 199 := by decide +kernel
    omega
  · have u := pow_mono (n := n) (by omega) h
    have : n ^ 4 < 2 ^ 199 := by rcases hn with rfl | rfl <;> decide +kernel
    omega
theorem key_at {ks : List Int} (hk : ks.length = 8) {i : Nat} (hi : i < 8) {x : Int} (e : x = (i : Nat)) : L2.atI (ks.map L2.V.int) x = some (.int (ks.getD i 0)) := by
  subst e
  exact L2.at_of (j := i) (by omega) (by rw [List.getElem?_map, List.getD_eq_getElem?_getD, List.getElem?_eq_getElem (by omega)]; rfl)
abbrev Vc := List (Int × Int)
def cnt : Vc → Int → Int
  | [], _ => 0
  | c :: r, d => if c.1 = d then c.2 else cnt r d
def madeN (n : Nat) (f : Nat → Int) : Vc := ((List.range n).filter fun k => decide (0 < f k)).map fun k => (((k : Nat) : Int) + 1, f k)
abbrev made (f : Nat → Int) : Vc := madeN 9 f
theorem madeN_succ (n : Nat) (f : Nat → Int) : madeN (n + 1) f = madeN n f ++ (if 0 < f n then [(((n : Nat) : Int) + 1, f n)] else []) := by
  unfold madeN
  rw [List.range_succ, List.filter_append, List.map_append]
  by_cases h : 0 < f n
  · rw [if_pos h, List.filter_cons_of_pos (by rw [decide_eq_true h])]; rfl
  · rw [if_neg h, List.filter_cons_of_neg (by rw [decide_eq_false h]; exact Bool.false_ne_true)]; rfl
theorem madeN_mem {n : Nat} {f : Nat → Int} {c : Int × Int} (h : c ∈ madeN n f) : ∃ k : Nat, k < n ∧ c = (((k : Nat) : Int) + 1, f k) ∧ 0 < f k := by
  obtain ⟨k, hk, rfl⟩ := List.mem_map.mp h
  obtain ⟨h1, h2⟩ := List.mem_filter.mp hk
  exact ⟨k, List.mem_range.mp h1, rfl, of_decide_eq_true h2⟩
theorem cnt_app_ne {u : Vc} {c : Int × Int} {d : Int} (h : ¬ c.1 = d) : cnt (u ++ [c]) d = cnt u d := by
  induction u with
  | nil => show (if c.1 = d then _ else _) = _; rw [if_neg h]
  | cons x r ih => show (if x.1 = d then _ else cnt (r ++ [c]) d) = if x.1 = d then _ else _; rw [ih]
theorem cnt_app_out {u w : Vc} {d : Int} (h : ∀ c ∈ u, ¬ c.1 = d) : cnt (u ++ w) d = cnt w d := by
  induction u with
  | nil => rfl
  | cons x r ih =>
    show (if x.1 = d then _ else cnt (r ++ w) d) = _
    rw [if_neg (h x (List.mem_cons_self ..)), ih fun c hc => h c (List.mem_cons_of_mem _ hc)]
theorem cnt_madeN {f : Nat → Int} (hf : ∀ k, 0 ≤ f k) (k : Nat) : ∀ n, cnt (madeN n f) (((k : Nat) : Int) + 1) = if k < n then f k else 0
  | 0 => by rw [if_neg (by omega)]; rfl
  | n + 1 => by
    have ih := cnt_madeN hf k n
    rw [madeN_succ]
    by_cases h : k = n
    · subst h
      rw [if_pos (show k < k + 1 by omega), cnt_app_out fun c hc => ?_]
      · by_cases h0 : 0 < f k
        · rw [if_pos h0]
          show (if ((k : Nat) : Int) + 1 = ((k : Nat) : Int) + 1 then f k else 0) = _
          rw [if_pos rfl]
        · rw [if_neg h0]; have := hf k; show (0 : Int) = _; omega
      · obtain ⟨j, hj, rfl, _⟩ := madeN_mem hc
        show ¬ ((j : Nat) : Int) + 1 = _
        omega
    · have e : (if k < n + 1 then f k else 0) = if k < n then f k else 0 := by
        by_cases h2 : k < n
        · rw [if_pos h2, if_pos (by omega)]
        · rw [if_neg h2, if_neg (by omega)]
      rw [e, ← ih]
      by_cases h0 : 0 < f n
      · rw [if_pos h0, cnt_app_ne (by show ¬ ((n : Nat) : Int) + 1 = _; omega)]
      · rw [if_neg h0, List.append_nil]
theorem cnt_made {f : Nat → Int} (hf : ∀ k, 0 ≤ f k) {k : Nat} (hk : k < 9) : cnt (made f) (((k : Nat) : Int) + 1) = f k := by
  rw [cnt_madeN hf, if_pos hk]
/-- the last that was told, along a row -/
def told (g : Int → Int → Int) (v : Vc) (d i : Int) : Int := v.foldl (fun acc c => if c.1 = d then g c.2 acc else acc) i
theorem told_app (g : Int → Int → Int) (u w : Vc) (d i : Int) : told g (u ++ w) d i = told g w d (told g u d i) := by
  unfold told; rw [List.foldl_append]
theorem told_one (g : Int → Int → Int) (c : Int × Int) (d i : Int) : told g [c] d i = if c.1 = d then g c.2 i else i := rfl
theorem told_madeN (g : Int → Int → Int) {f : Nat → Int} (k : Nat) (i : Int) : ∀ n, told g (madeN n f) (((k : Nat) : Int) + 1) i = if k < n ∧ 0 < f k then g (f k) i else i
  | 0 => by rw [if_neg (by omega)]; rfl
  | n + 1 => by
    have ih := told_madeN g (f := f) k i n
    rw [madeN_succ, told_app, ih]
    by_cases h0 : 0 < f n
    · rw [if_pos h0, told_one]
      by_cases h : k = n
      · subst h
        show (if ((k : Nat) : Int) + 1 = _ then _ else _) = _
        rw [if_pos rfl, if_neg (show ¬ (k < k ∧ 0 < f k) by omega), if_pos ⟨by omega, h0⟩]
      · show (if ((n : Nat) : Int) + 1 = _ then _ else _) = _
        rw [if_neg (by omega)]
        by_cases h2 : k < n ∧ 0 < f k
        · rw [if_pos h2, if_pos ⟨by omega, h2.2⟩]
        · rw [if_neg h2, if_neg (by omega)]
    · rw [if_neg h0]
      show (if k < n ∧ 0 < f k then g (f k) i else i) = _
      by_cases h2 : k < n ∧ 0 < f k
      · rw [if_pos h2, if_pos ⟨by omega, h2.2⟩]
      · by_cases h : k = n
        · subst h
          rw [if_neg h2, if_neg (by omega)]
        · rw [if_neg h2, if_neg (by omega)]
theorem last_made {f : Nat → Int} (hf : ∀ k, 0 ≤ f k) {k : Nat} (hk : k < 9) : told (fun c _ => c) (made f) (((k : Nat) : Int) + 1) 0 = f k := by
  rw [told_madeN]
  by_cases h : 0 < f k
  · rw [if_pos ⟨hk, h⟩]
  · have := hf k
    rw [if_neg (by omega)]; omega
def mx (i j : Int) : Int := if j > i then j else i
theorem max_made {f g : Nat → Int} (hf : ∀ k, 0 ≤ f k) {k : Nat} (hk : k < 9) : told mx (made g) (((k : Nat) : Int) + 1) (f k) = mx (f k) (g k) := by
  rw [told_madeN]
  have := hf k
  by_cases h : 0 < g k
  · rw [if_pos ⟨hk, h⟩]
    unfold mx
    split <;> split <;> omega
  · rw [if_neg (by omega)]
    unfold mx
    rw [if_neg (by omega)]
def lessF (n : Nat) (f g : Nat → Int) : Bool := (List.range n).any fun k => decide (f k < g k)
theorem less_madeN {f g : Nat → Int} (hf : ∀ k, 0 ≤ f k) : ∀ n, n ≤ 9 → ((madeN n g).any fun c => decide (cnt (made f) c.1 < c.2)) = lessF n f g
  | 0, _ => rfl
  | n + 1, h => by
    have ih := less_madeN (g := g) hf n (by omega)
    have e : lessF (n + 1) f g = (lessF n f g || decide (f n < g n)) := by
      unfold lessF
      rw [List.range_succ, List.any_append]
      simp
    rw [madeN_succ, List.any_append, ih, e]
    have := hf n
    by_cases h0 : 0 < g n
    · rw [if_pos h0]
      show (_ || (decide (cnt (made f) (((n : Nat) : Int) + 1) < g n) || false)) = _
      rw [cnt_made hf (by omega), Bool.or_false]
    · rw [if_neg h0, decide_eq_false (by omega : ¬ f n < g n)]
      rfl
/-! a dict of counts -/
def kvl (m : Vc) : List (Key × V) := m.map fun c => (Sum.inl c.1, V.int c.2)
def dput (m : Vc) (k c : Int) : Vc := if (m.any fun x => decide (x.1 = k)) = true then m.map (fun x => if x.1 = k then (k, c) else x) else m ++ [(k, c)]
structure Good (m : Vc) : Prop where
  nd : (m.map (·.1)).Nodup
  rg : ∀ c ∈ m, 1 ≤ c.1 ∧ c.1 ≤ 9 ∧ 0 < c.2
theorem putK_kvl (m : Vc) (k c : Int) : putK (kvl m) (Sum.inl k) (V.int c) = kvl (dput m k c) := by
  have e1 : ((kvl m).any fun kv => decide (kv.1 = (Sum.inl k : Key))) = (m.any fun x => decide (x.1 = k)) := by
    unfold kvl
    rw [List.any_map]
    congr 1
    funext x
    exact decide_eq_decide.mpr ⟨fun h => Sum.inl.inj h, fun h => congrArg Sum.inl h⟩
  unfold putK dput
  rw [e1]
  split
  · unfold kvl
    rw [List.map_map, List.map_map]
    refine List.map_congr_left fun x _ => ?_
    show (if (Sum.inl x.1 : Key) = Sum.inl k then _ else _) = (fun c : Int × Int => ((Sum.inl c.1 : Key), V.int c.2)) (if x.1 = k then (k, c) else x)
    by_cases h : x.1 = k
    · rw [if_pos h, if_pos (congrArg Sum.inl h)]
      show ((Sum.inl x.1 : Key), V.int c) = (Sum.inl k, V.int c)
      rw [h]
    · rw [if_neg h, if_neg fun q => h (Sum.inl.inj q)]
  · unfold kvl
    rw [List.map_append]
    rfl
theorem valV_kvl (m : Vc) (d : Int) : ((valV (kvl m) (Sum.inl d : Key)).getD (.int 0) = .int (cnt m d)) ∧ (∀ c ∈ m, c.1 = d → valV (kvl m) (Sum.inl d : Key) = some (.int (cnt m d))) := by
  induction m with
  | nil => exact ⟨rfl, fun c hc => by cases hc⟩
  | cons x r ih =>
    have e : valV (kvl (x :: r)) (Sum.inl d : Key) = if x.1 = d then some (.int x.2) else valV (kvl r) (Sum.inl d : Key) := by
      unfold valV kvl
      rw [List.map_cons, List.find?_cons]
      by_cases h : x.1 = d
      · rw [if_pos h, decide_eq_true (congrArg Sum.inl h)]; rfl
      · rw [if_neg h, decide_eq_false fun q => h (Sum.inl.inj q)]
    rw [e]
    show (_ = V.int (if x.1 = d then x.2 else cnt r d)) ∧ _
    by_cases h : x.1 = d
    · rw [if_pos h, if_pos h]
      exact ⟨rfl, fun _ _ _ => by show _ = some (V.int (if x.1 = d then x.2 else cnt r d)); rw [if_pos h]⟩
    · rw [if_neg h, if_neg h]
      refine ⟨ih.1, fun c hc q => ?_⟩
      show _ = some (V.int (if x.1 = d then x.2 else cnt r d))
      rw [if_neg h]
      rcases List.mem_cons.mp hc with rfl | hc
      · exact absurd q h
      · exact ih.2 c hc q
theorem cnt_pos {m : Vc} (g : Good m) {d : Int} : (∃ c ∈ m, c.1 = d) ↔ 0 < cnt m d := by
  have := g.rg
  clear g
  induction m with
  | nil => exact ⟨fun ⟨c, hc, _⟩ => (by cases hc), fun h => absurd h (by show ¬ (0 : Int) < 0; omega)⟩
  | cons x r ih =>
    have ih : (∃ c ∈ r, c.1 = d) ↔ 0 < cnt r d := ih fun c hc => this c (List.mem_cons_of_mem _ hc)
    have hx := this x (List.mem_cons_self ..)
    show _ ↔ 0 < if x.1 = d then x.2 else cnt r d
    by_cases h : x.1 = d
    · rw [if_pos h]
      exact ⟨fun _ => hx.2.2, fun _ => ⟨x, List.mem_cons_self .., h⟩⟩
    · rw [if_neg h]
      refine Iff.trans ?_ ih
      constructor
      · rintro ⟨c, hc, q⟩
        rcases List.mem_cons.mp hc with rfl | hc
        · exact absurd q h
        · exact ⟨c, hc, q⟩
      · rintro ⟨c, hc, q⟩
        exact ⟨c, List.mem_cons_of_mem _ hc, q⟩
theorem cnt_dput (m : Vc) (k c d : Int) : cnt (dput m k c) d = if k = d then c else cnt m d := by
  unfold dput
  split
  · rename_i h
    have key : ∀ m : Vc, (m.any fun x => decide (x.1 = k)) = true → cnt (m.map fun x => if x.1 = k then (k, c) else x) d = if k = d then c else cnt m d := by
      intro m
      have none : ∀ m : Vc, ¬ k = d → cnt (m.map fun x => if x.1 = k then (k, c) else x) d = cnt m d := by
        intro m hk
        induction m with
        | nil => rfl
        | cons x r ih =>
          show cnt ((if x.1 = k then (k, c) else x) :: r.map _) d = if x.1 = d then x.2 else cnt r d
          by_cases hx : x.1 = k
          · rw [if_pos hx]
            show (if k = d then c else _) = _
            rw [if_neg hk, if_neg (by rw [hx]; exact hk), ih]
          · rw [if_neg hx]
            show (if x.1 = d then x.2 else _) = _
            rw [ih]
      induction m with
      | nil => intro h; cases h
      | cons x r ih =>
        intro h
        by_cases hk : k = d
        · rw [if_pos hk]
          show cnt ((if x.1 = k then (k, c) else x) :: r.map _) d = c
          by_cases hx : x.1 = k
          · rw [if_pos hx]
            show (if k = d then c else _) = _
            rw [if_pos hk]
          · rw [if_neg hx]
            show (if x.1 = d then x.2 else _) = _
            rw [if_neg (by rw [← hk]; exact hx)]
            have h2 : (r.any fun x => decide (x.1 = k)) = true := by
              rw [List.any_cons, decide_eq_false hx, Bool.false_or] at h
              exact h
            rw [ih h2, if_pos hk]
        · rw [if_neg hk]
          exact none _ hk
    exact key m h
  · rename_i h
    have out : ∀ x ∈ m, ¬ x.1 = k := fun x hx q => h (List.any_eq_true.mpr ⟨x, hx, decide_eq_true q⟩)
    by_cases hk : k = d
    · rw [if_pos hk, cnt_app_out (by rw [← hk]; exact out)]
      show (if k = d then c else _) = _
      rw [if_pos hk]
    · rw [if_neg hk, cnt_app_ne hk]
theorem good_dput {m : Vc} (g : Good m) {k c : Int} (h1 : 1 ≤ k) (h9 : k ≤ 9) (hc : 0 < c) : Good (dput m k c) := by
  unfold dput
  split
  · refine ⟨?_, fun x hx => ?_⟩
    · have e : (m.map fun x => if x.1 = k then (k, c) else x).map (·.1) = m.map (·.1) := by
        rw [List.map_map]
        refine List.map_congr_left fun x _ => ?_
        show (if x.1 = k then (k, c) else x).1 = x.1
        by_cases h : x.1 = k
        · rw [if_pos h, h]
        · rw [if_neg h]
      rw [e]; exact g.nd
    · obtain ⟨y, hy, rfl⟩ := List.mem_map.mp hx
      by_cases h : y.1 = k
      · rw [if_pos h]; exact ⟨h1, h9, hc⟩
      · rw [if_neg h]; exact g.rg y hy
  · rename_i h
    have out : ∀ x ∈ m, ¬ x.1 = k := fun x hx q => h (List.any_eq_true.mpr ⟨x, hx, decide_eq_true q⟩)
    refine ⟨?_, fun x hx => ?_⟩
    · rw [List.map_append, List.nodup_append]
      refine ⟨g.nd, by simp, fun a ha b hb => ?_⟩
      obtain ⟨x, hx, rfl⟩ := List.mem_map.mp ha
      have hb : b = k := by simpa using hb
      rw [hb]; exact out x hx
    · rcases List.mem_append.mp hx with hx | hx
      · exact g.rg x hx
      · rw [List.mem_singleton.mp hx]; exact ⟨h1, h9, hc⟩
theorem merge_kvl (v : Vc) : ∀ m : Vc, mergeK (kvl m) (kvl v) = kvl (v.foldl (fun m c => dput m c.1 c.2) m) := by
  induction v with
  | nil => intro m; rfl
  | cons x r ih =>
    intro m
    show mergeK (putK (kvl m) (Sum.inl x.1) (V.int x.2)) (kvl r) = _
    rw [putK_kvl, ih]
    rfl
theorem fold_good (v : Vc) (hv : ∀ c ∈ v, 1 ≤ c.1 ∧ c.1 ≤ 9 ∧ 0 < c.2) : ∀ m : Vc, Good m → Good (v.foldl (fun m c => dput m c.1 c.2) m) := by
  induction v with
  | nil => intro m g; exact g
  | cons x r ih =>
    intro m g
    have hx := hv x (List.mem_cons_self ..)
    exact ih (fun c hc => hv c (List.mem_cons_of_mem _ hc)) _ (good_dput g hx.1 hx.2.1 hx.2.2)
theorem fold_cnt (v : Vc) (d : Int) : ∀ m : Vc, cnt (v.foldl (fun m c => dput m c.1 c.2) m) d = told (fun c _ => c) v d (cnt m d) := by
  induction v with
  | nil => intro m; rfl
  | cons x r ih =>
    intro m
    show cnt (r.foldl (fun m c => dput m c.1 c.2) (dput m x.1 x.2)) d = told (fun c _ => c) r d (if x.1 = d then x.2 else cnt m d)
    rw [ih, cnt_dput]
theorem made_rg {f : Nat → Int} : ∀ c ∈ made f, 1 ≤ c.1 ∧ c.1 ≤ 9 ∧ 0 < c.2 := fun c hc => by
  obtain ⟨k, hk, rfl, h0⟩ := madeN_mem hc
  exact ⟨by show (1 : Int) ≤ ((k : Nat) : Int) + 1; omega, by show ((k : Nat) : Int) + 1 ≤ 9; omega, h0⟩
/-- a rising row of numbers from 1 to n is told by what is in it -/
theorem rising (n : Nat) : ∀ ys : List Int, ys.Pairwise (· < ·) → (∀ y ∈ ys, 1 ≤ y ∧ y ≤ n) → ys = ((List.range n).filter fun k => decide ((((k : Nat) : Int) + 1) ∈ ys)).map fun k => ((k : Nat) : Int) + 1 := by
  induction n with
  | zero =>
    intro ys _ h
    cases ys with
    | nil => rfl
    | cons y r => have := h y (List.mem_cons_self ..); omega
  | succ n ih =>
    intro ys hp h
    by_cases hm : (((n : Nat) : Int) + 1) ∈ ys
    · obtain ⟨u, w, e⟩ := List.append_of_mem hm
      have hw : w = [] := by
        cases w with
        | nil => rfl
        | cons z w =>
          rw [e, List.pairwise_append] at hp
          have h1 := (List.pairwise_cons.mp hp.2.1).1 z (List.mem_cons_self ..)
          have h2 := h z (by rw [e]; simp)
          omega
      subst hw
      have hu : u.Pairwise (· < ·) := by rw [e, List.pairwise_append] at hp; exact hp.1
      have hlt : ∀ y ∈ u, y < ((n : Nat) : Int) + 1 := fun y hy => by
        rw [e, List.pairwise_append] at hp
        exact hp.2.2 y hy _ (by simp)
      have iu := ih u hu fun y hy => ⟨(h y (by rw [e]; simp [hy])).1, by have := hlt y hy; omega⟩
      have ef : ((List.range (n + 1)).filter fun k => decide ((((k : Nat) : Int) + 1) ∈ ys)) = ((List.range n).filter fun k => decide ((((k : Nat) : Int) + 1) ∈ u)) ++ [n] := by
        have e1 : ((List.range n).filter fun k => decide ((((k : Nat) : Int) + 1) ∈ ys)) = ((List.range n).filter fun k => decide ((((k : Nat) : Int) + 1) ∈ u)) := by
          refine List.filter_congr fun k hk => ?_
          have hk := List.mem_range.mp hk
          refine decide_eq_decide.mpr ?_
          rw [e, List.mem_append, List.mem_singleton]
          exact ⟨fun q => q.resolve_right (by omega), .inl⟩
        rw [List.range_succ, List.filter_append, List.filter_cons_of_pos (by rw [decide_eq_true hm]), List.filter_nil, e1]
      rw [ef, List.map_append, ← iu, e]
      rfl
    · have iu := ih ys hp fun y hy => ⟨(h y hy).1, by
        have h1 := (h y hy).2
        have h2 : ¬ y = ((n : Nat) : Int) + 1 := fun q => hm (q ▸ hy)
        omega⟩
      rw [List.range_succ, List.filter_append, List.filter_cons_of_neg (by rw [decide_eq_false hm]; exact Bool.false_ne_true), List.filter_nil, List.append_nil]
      exact iu
/-- sorted keys with their counts -/
theorem vector_made {m : Vc} (g : Good m) {ys : List Int} (hp : ys.Perm (m.map (·.1))) (hs : ys.Pairwise (· ≤ ·)) : ys.map (fun y => (y, cnt m y)) = made fun k => cnt m (((k : Nat) : Int) + 1) := by
  have nd : ys.Nodup := hp.nodup_iff.mpr g.nd
  have lt : ys.Pairwise (· < ·) := by
    have := List.Pairwise.and hs nd
    exact this.imp fun h => by omega
  have mem : ∀ y, y ∈ ys ↔ ∃ c ∈ m, c.1 = y := fun y => by rw [hp.mem_iff, List.mem_map]
  have rg : ∀ y ∈ ys, 1 ≤ y ∧ y ≤ ((9 : Nat) : Int) := fun y hy => by
    obtain ⟨c, hc, rfl⟩ := (mem y).mp hy
    have := g.rg c hc
    omega
  have e := rising 9 ys lt rg
  have ef : ((List.range 9).filter fun k => decide ((((k : Nat) : Int) + 1) ∈ ys)) = ((List.range 9).filter fun k => decide (0 < cnt m (((k : Nat) : Int) + 1))) :=
    List.filter_congr fun k _ => decide_eq_decide.mpr ((mem _).trans (cnt_pos g))
  rw [ef] at e
  rw [e, List.map_map]
  rfl
theorem paired_imp {α β : Type} {R S : α → β → Prop} (h : ∀ a b, R a b → S a b) : ∀ {xs : List α} {ys : List β}, Paired R xs ys → Paired S xs ys
  | _, _, .nil => .nil
  | _, _, .cons a b => .cons (h _ _ a) (paired_imp h b)
theorem paired_get {α β : Type} {R : α → β → Prop} : ∀ {xs : List α} {ys : List β}, Paired R xs ys → ∀ (i : Nat) (x : α), xs[i]? = some x → ∃ y, ys[i]? = some y ∧ R x y
  | _, _, .nil, i, x, h => by simp at h
  | _, _, .cons a b, 0, x, h => by cases (Option.some.inj h); exact ⟨_, rfl, a⟩
  | _, _, .cons a b, i + 1, x, h => by
    obtain ⟨y, h1, h2⟩ := paired_get b i x (by simpa using h)
    exact ⟨y, by simpa using h1, h2⟩
theorem paired_len {α β : Type} {R : α → β → Prop} : ∀ {xs : List α} {ys : List β}, Paired R xs ys → xs.length = ys.length
  | _, _, .nil => rfl
  | _, _, .cons a b => by rw [List.length_cons, List.length_cons, paired_len b]
theorem paired_snoc {α β : Type} {R : α → β → Prop} : ∀ {xs : List α} {ys : List β} {x : α} {y : β}, Paired R xs ys → R x y → Paired R (xs ++ [x]) (ys ++ [y])
  | _, _, _, _, .nil, h => .cons h .nil
  | _, _, _, _, .cons a b, h => .cons a (paired_snoc b h)
abbrev Prs (K : PySem.W.Frag) (H : Hp) (ps : List Addr) (v : Vc) : Prop := Paired (fun p (c : Int × Int) => SqT K H p [.int c.1, .int c.2]) ps v
def Vec (K : PySem.W.Frag) (H : Hp) (a : Addr) (v : Vc) : Prop := ∃ ps : List Addr, SqT K H a (ps.map V.ref) ∧ Prs K H ps v
def PVec (K : PySem.W.Frag) (H : Hp) (a : Addr) (v : Vc) : Prop := ∃ ps : List Addr, PlT H a (ps.map V.ref) ∧ Prs K H ps v
theorem prs_same {K : PySem.W.Frag} {H H' : Hp} {ps : List Addr} {v : Vc} (e : Same H H') (h : Prs K H ps v) : Prs K H' ps v := paired_imp (fun _ _ q => same_tup e q) h
theorem Vec.same {K : PySem.W.Frag} {H H' : Hp} {a : Addr} {v : Vc} (h : Vec K H a v) (e : Same H H') : Vec K H' a v := by
  obtain ⟨ps, h1, h2⟩ := h
  exact ⟨ps, same_tup e h1, prs_same e h2⟩
theorem PVec.same {K : PySem.W.Frag} {H H' : Hp} {a : Addr} {v : Vc} (h : PVec K H a v) (e : Same H H') : PVec K H' a v := by
  obtain ⟨ps, h1, h2⟩ := h
  exact ⟨ps, h1.same e, prs_same e h2⟩
theorem PVec.vec {K : PySem.W.Frag} {H : Hp} {a : Addr} {v : Vc} (h : PVec K H a v) : Vec K H a v := by
  obtain ⟨ps, h1, h2⟩ := h
  exact ⟨ps, h1.seq, h2⟩
theorem for_vec {K : PySem.W.Frag} {g : TG} {t : TS} {D : Ends} {σ : L2.St} {H H0 : Hp} {a : Addr} {v : Vc} {ps : List Addr} (hS : SqT K H0 a (ps.map V.ref)) (hP : Prs K H0 ps v) (Pv : Vc → L2.St → Hp → Prop) (h0 : Pv [] σ H) (hl : ∀ pre σ H, Pv pre σ H → Same H0 H)
    (hs : ∀ (pre : Vc) (c : Int × Int) (post : Vc) (T : Addr) σ H, v = pre ++ c :: post → Pv pre σ H → SqT K H T [.int c.1, .int c.2] → g (.ref T) σ H fun σ2 H2 => t { D with nx := Pv (pre ++ [c]), ct := Pv (pre ++ [c]), bk := D.nx } σ2 H2)
    (hd : ∀ σ H, Pv v σ H → D.nx σ H) : ForB (Itt K a) g t D σ H := by
  refine for_tup (xs := ps.map V.ref) (fun i => Pv (v.take i)) (by simpa using h0) (fun i σ H _ p => same_tup (hl _ σ H p) hS) (fun i x σ H hx p => ?_) (fun σ H p => ?_)
  · rw [List.getElem?_map] at hx
    obtain ⟨T, hT, rfl⟩ := Option.map_eq_some_iff.mp hx
    obtain ⟨c, hc, q⟩ := paired_get hP i T hT
    have e2 := (List.getElem?_eq_some_iff.mp hc).2
    have e1 : v = v.take i ++ c :: v.drop (i + 1) := by rw [← e2, List.getElem_cons_drop, List.take_append_drop]
    rw [List.take_add_one, hc]
    exact hs _ c _ T σ H e1 p (same_tup (hl _ σ H p) q)
  · rw [List.length_map, paired_len hP, List.take_length] at p
    exact hd σ H p
def lessV (v w : Vc) : Bool := w.any fun c => decide (cnt v c.1 < c.2)
def cmpS (a b : Bool) : Str := if a = true then (if b = true then "apart" else "less") else if b = true then "greater" else "equal"
theorem dput_len (m : Vc) (k c : Int) : (dput m k c).length ≤ m.length + 1 := by
  unfold dput
  split <;> simp
theorem fold_len (v : Vc) : ∀ m : Vc, (v.foldl (fun m c => dput m c.1 c.2) m).length ≤ m.length + v.length := by
  induction v with
  | nil => intro m; exact Nat.le_refl _
  | cons x r ih =>
    intro m
    have h1 := ih (dput m x.1 x.2)
    have h2 := dput_len m x.1 x.2
    show (r.foldl (fun m c => dput m c.1 c.2) (dput m x.1 x.2)).length ≤ _
    rw [List.length_cons]
    omega
theorem made_len (f : Nat → Int) : (made f).length ≤ 9 := by
  unfold made madeN
  rw [List.length_map]
  exact Nat.le_trans (List.length_filter_le ..) (by rw [List.length_range]; exact Nat.le_refl _)
theorem made_congr {f g : Nat → Int} (h : ∀ k, k < 9 → f k = g k) : made f = made g := by
  unfold made madeN
  have e : ((List.range 9).filter fun k => decide (0 < f k)) = ((List.range 9).filter fun k => decide (0 < g k)) :=
    List.filter_congr fun k hk => by rw [h k (List.mem_range.mp hk)]
  rw [e]
  refine List.map_congr_left fun k hk => ?_
  rw [h k (List.mem_range.mp (List.mem_filter.mp hk).1)]
def row9 (f : Nat → Int) : List Int := (List.range 9).map f
def sp_count_of (K : PySem.W.Frag) : Sp := sp2 fun x y H Q => ∃ (a : Addr) (v : Vc) (d : Int), x = .ref a ∧ y = .int d ∧ Vec K H a v ∧ Q (.int (cnt v d)) H
def sp_is_less_somewhere (K : PySem.W.Frag) : Sp := sp2 fun x y H Q => ∃ (a b : Addr) (v w : Vc), x = .ref a ∧ y = .ref b ∧ Vec K H a v ∧ Vec K H b w ∧ Q (.bl (lessV v w)) H
def sp_compare (K : PySem.W.Frag) : Sp := sp2 fun x y H Q => ∃ (a b : Addr) (v w : Vc), x = .ref a ∧ y = .ref b ∧ Vec K H a v ∧ Vec K H b w ∧ Q (.str (cmpS (lessV v w) (lessV w v))) H
def sp_vector (K : PySem.W.Frag) : Sp := sp1 fun x H Q => ∃ (D : Addr) (m : Vc), x = .ref D ∧ H D = some (.dK (kvl m)) ∧ Good m ∧ m.length ≤ 40 ∧ ∀ (r : Addr) (H' : Hp), Same H H' → PVec K H' r (made fun k => cnt m (((k : Nat) : Int) + 1)) → Q (.ref r) H'
def sp_join (K : PySem.W.Frag) : Sp := sp2 fun x y H Q => ∃ (a b : Addr) (f g : Nat → Int), x = .ref a ∧ y = .ref b ∧ (∀ k, 0 ≤ f k) ∧ (∀ k, 0 ≤ g k) ∧ PVec K H a (made f) ∧ Vec K H b (made g) ∧ ∀ (r : Addr) (H' : Hp), Same H H' → PVec K H' r (made fun k => mx (f k) (g k)) → Q (.ref r) H'
def sp_raised (K : PySem.W.Frag) : Sp := sp3 fun x y z H Q => ∃ (a : Addr) (f : Nat → Int) (j : Nat) (n : Int), x = .ref a ∧ y = .int (((j : Nat) : Int) + 1) ∧ z = .int n ∧ j < 9 ∧ 0 < n ∧ (∀ k, 0 ≤ f k) ∧ PVec K H a (made f) ∧ ∀ (r : Addr) (H' : Hp), Same H H' → PVec K H' r (made fun k => if k = j then n else f k) → Q (.ref r) H'
def sp_counts_of (K : PySem.W.Frag) : Sp := sp1 fun x H Q => ∃ (a : Addr) (f : Nat → Int), x = .ref a ∧ (∀ k, 0 ≤ f k) ∧ Vec K H a (made f) ∧ ∀ (r : Addr) (H' : Hp), Same H H' → SqT K H' r ((row9 f).map V.int) → Q (.ref r) H'
def sp_law_cell (K : PySem.W.Frag) : Sp := sp2 fun x y H Q => ∃ (a : Addr) (ns : List Int) (i : Nat), x = .ref a ∧ y = .int i ∧ SqL K H a (ns.map V.int) ∧ ns.length ≤ 1000 ∧ i ≤ 1000 ∧ ∀ n, Q (.int n) H
def sp_law_counts (K : PySem.W.Frag) : Sp := sp1 fun x H Q => ∃ (a : Addr) (f : Nat → Int), x = .ref a ∧ (∀ k, 0 ≤ f k) ∧ Vec K H a (made f) ∧ ∀ (r : Addr) (H' : Hp), H r = none → Same H H' → H' r = some (.lst ((row9 f).map V.int)) → Q (.ref r) H'
def sp_law_made (K : PySem.W.Frag) : Sp := sp1 fun x H Q => ∃ (a : Addr) (f : Nat → Int), x = .ref a ∧ SqL K H a ((row9 f).map V.int) ∧ ∀ (r : Addr) (H' : Hp), Same H H' → Vec K H' r (made f) → Q (.ref r) H'
theorem e_tDGet {td ty : TE} {σ : L2.St} {H : Hp} {Q : VK} (q : td σ H fun x H1 => ty σ H1 fun y H2 => ∃ a v, x = .ref a ∧ DGet H2 a y (some v) ∧ Q v H2) : tDGet td ty σ H Q := q
theorem e_tDGet2 {td ty tx : TE} {σ : L2.St} {H : Hp} {Q : VK} (q : td σ H fun x H1 => ∃ a, x = .ref a ∧ IsD H1 a ∧ ty σ H1 fun y H2 => tx σ H2 fun z H3 => ∃ o, DGet H3 a y o ∧ Q (o.getD z) H3) : tDGet2 td ty tx σ H Q := q
theorem e_sDPut {td ty tv : TE} {σ : L2.St} {H : Hp} {D : Ends} (q : tv σ H fun v H1 => td σ H1 fun x H2 => ty σ H2 fun y H3 => ∃ a H4, x = .ref a ∧ DPut H3 a y v H4 ∧ D.nx σ H4) : sDPut td ty tv D σ H := q
theorem dg_some {H : Hp} {D : Addr} {m : Vc} {d : Int} {Q : V → Prop} (h : H D = some (.dK (kvl m))) (hc : ∃ c ∈ m, c.1 = d) (q : Q (.int (cnt m d))) : ∃ a v, V.ref D = .ref a ∧ DGet H a (.int d) (some v) ∧ Q v := by
  obtain ⟨c, h1, h2⟩ := hc
  refine ⟨D, _, rfl, ?_, q⟩
  rw [← (valV_kvl m d).2 c h1 h2]
  exact DGet.k (k := Sum.inl d) h
theorem dg_or {H : Hp} {D : Addr} {m : Vc} {d : Int} {Q : Option V → Prop} (h : H D = some (.dK (kvl m))) (q : ∀ o : Option V, o.getD (.int 0) = .int (cnt m d) → Q o) : ∃ o, DGet H D (.int d) o ∧ Q o :=
  ⟨_, DGet.k (k := Sum.inl d) h, q _ (valV_kvl m d).1⟩
theorem dp_put {H : Hp} {D : Addr} {m : Vc} {k c : Int} {Q : Hp → Prop} (h : H D = some (.dK (kvl m))) (hl : m.length ≤ 100) (q : Q (upd H D (.dK (kvl (dput m k c))))) : ∃ a H4, V.ref D = .ref a ∧ DPut H a (.int k) (.int c) H4 ∧ Q H4 :=
  ⟨D, _, rfl, .inl ⟨kvl m, Sum.inl k, h, rfl, Nat.lt_of_le_of_lt (by unfold kvl; rw [List.length_map]; exact hl) (by decide), rfl⟩, by rw [putK_kvl]; exact q⟩
theorem prs_kvl {K : PySem.W.Frag} {H : Hp} : ∀ {ps : List Addr} {v : Vc}, Prs K H ps v → Paired (fun p (kv : Key × V) => SqT K H p [kV kv.1, kv.2]) ps (kvl v)
  | _, _, .nil => .nil
  | _, _, .cons a b => .cons a (prs_kvl b)
theorem dict_made {f : Nat → Int} (hf : ∀ k, 0 ≤ f k) : ∃ m, mergeK [] (kvl (made f)) = kvl m ∧ Good m ∧ m.length ≤ 9 ∧ ∀ k : Nat, k < 9 → cnt m (((k : Nat) : Int) + 1) = f k :=
  ⟨_, merge_kvl (made f) [], fold_good (made f) made_rg [] ⟨by simp, fun c hc => by cases hc⟩, Nat.le_trans (fold_len (made f) []) (by rw [List.length_nil, Nat.zero_add]; exact made_len f), fun k hk => by rw [fold_cnt]; exact last_made hf hk⟩
abbrev Prx (H : Hp) (ps : List Addr) (v : Vc) : Prop := Paired (fun p (c : Int × Int) => H p = some (.tup [.int c.1, .int c.2])) ps v
theorem Prx.upd {H : Hp} {ps : List Addr} {v : Vc} {E : Addr} {l : List V} {o : HO} (h : Prx H ps v) (e : H E = some (.lst l)) : Prx (upd H E o) ps v :=
  paired_imp (fun p c q => by
    have n : p ≠ E := fun z => by
      rw [z, e] at q
      cases q
    rw [upd_ne n]; exact q) h
theorem Prx.same {H H' : Hp} {ps : List Addr} {v : Vc} (h : Prx H ps v) (e : Same H H') : Prx H' ps v := paired_imp (fun _ _ q => e _ _ q) h
theorem Prx.prs {K : PySem.W.Frag} {H : Hp} {ps : List Addr} {v : Vc} (h : Prx H ps v) : Prs K H ps v := paired_imp (fun _ _ q => SqT.of q) h
theorem row9_at (f : Nat → Int) {i : Nat} (h : i < 9) {j : Int} (hj : j = i) : atI ((row9 f).map V.int) j = some (.int (f i)) :=
  at_of (j := i) hj (by rw [List.getElem?_map, row9, List.getElem?_map, List.getElem?_range h]; rfl)
theorem row9_set (f : Nat → Int) {i : Nat} (h : i < 9) (n : Int) : (row9 f).set i n = row9 fun k => if k = i then n else f k := by
  refine List.ext_getElem? fun k => ?_
  rw [List.getElem?_set]
  unfold row9
  by_cases hk : k < 9
  · have r1 : ((List.range 9).map fun k => if k = i then n else f k)[k]? = some (if k = i then n else f k) := by rw [List.getElem?_map, List.getElem?_range hk]; rfl
    have r2 : ((List.range 9).map f)[k]? = some (f k) := by rw [List.getElem?_map, List.getElem?_range hk]; rfl
    rw [r1, r2]
    by_cases e : i = k
    · rw [if_pos e, if_pos (by simp; omega), if_pos e.symm]
    · rw [if_neg e, if_neg fun q => e q.symm]
  · rw [List.getElem?_eq_none (l := (List.range 9).map fun k => if k = i then n else f k) (by simp; omega)]
    by_cases e : i = k
    · omega
    · rw [if_neg e, List.getElem?_eq_none (by simp; omega)]
theorem row9_inj {f g : Nat → Int} (h : ∀ k, k < 9 → f k = g k) : row9 f = row9 g := List.map_congr_left fun k hk => h k (List.mem_range.mp hk)
theorem row9_len (f : Nat → Int) : ((row9 f).map V.int).length = 9 := by unfold row9; simp
theorem p2 (n : Int) {i : Nat} (h : i < 9) : CDivW n (1 * 2 ^ (1 + (i : Int)).toNat) := by
  have e : (1 + (i : Int)).toNat = i + 1 := by omega
  rw [e]
  have : i = 0 ∨ i = 1 ∨ i = 2 ∨ i = 3 ∨ i = 4 ∨ i = 5 ∨ i = 6 ∨ i = 7 ∨ i = 8 := by omega
  rcases this with h | h | h | h | h | h | h | h | h <;> rw [h] <;> exact ⟨by decide, by decide⟩
theorem lc_filt {K : PySem.W.Frag} {g : TG} {tt : TT} {te : TE} {vs : List Nat} {σ : L2.St} {Da : Addr} {H0 : Hp} {Q : VK} {lo : Int} {n : Nat} (hD : H0 Da = none) (hn : n ≤ 1000000) (p : Nat → Bool) (f : Nat → V)
    (hs : ∀ (i : Nat) (H2 : Hp) (C : VK) (E : Hp → Prop), i < n → Same H0 H2 → (p i = true → ∀ H3, Same H2 H3 → C (f i) H3) → (p i = false → ∀ H3, Same H2 H3 → E H3) →
      g (.int (lo + (i : Nat))) (wipe σ vs) H2 fun σ2 H2 => wipe σ2 vs = wipe σ vs ∧ tt σ2 H2 fun b H3 => if b = true then te σ2 H3 C else E H3)
    (hd : ∀ (H : Hp), Same H0 H → H Da = some (.lst (((List.range n).filter p).map f)) → Q (.ref Da) H) : LcB (Itr lo n) g tt te vs σ Da H0 Q := by
  refine lc_rng (fun i H2 => Same H0 H2 ∧ H2 Da = some (.lst (((List.range i).filter p).map f))) ⟨same_new hD, upd_same⟩ (fun i H2 hi q => ?_) (fun H2 q => hd H2 q.1 q.2)
  obtain ⟨s4, e4⟩ := q
  refine hs i H2 _ _ hi s4 (fun hp H3 s5 => ?_) (fun hp H3 s5 => ?_)
  · refine ⟨_, s5 _ _ e4, Nat.lt_of_le_of_lt (Nat.le_trans (by rw [List.length_map]; exact List.length_filter_le ..) (by rw [List.length_range]; omega : _ ≤ 1000000)) (by decide), Same.mut (s4.trans s5) hD, ?_⟩
    rw [upd_same, List.range_succ, List.filter_append, List.filter_cons_of_pos hp, List.map_append]
    rfl
  · refine ⟨s4.trans s5, ?_⟩
    rw [s5 _ _ e4, List.range_succ, List.filter_append, List.filter_cons_of_neg (by rw [hp]; exact Bool.false_ne_true), List.filter_nil, List.append_nil]
theorem nil_less (f g : Nat → Int) (h : Nat → Int) : decide ((((List.range 9).filter fun k => decide (f k < g k)).map h) = []) = !lessF 9 f g := by
  unfold lessF
  cases e : (List.range 9).any fun k => decide (f k < g k) with
  | true =>
    obtain ⟨k, hk, q⟩ := List.any_eq_true.mp e
    refine decide_eq_false fun z => ?_
    have : (List.range 9).filter (fun k => decide (f k < g k)) = [] := List.map_eq_nil_iff.mp z
    have m : k ∈ (List.range 9).filter (fun k => decide (f k < g k)) := List.mem_filter.mpr ⟨hk, q⟩
    rw [this] at m
    cases m
  | false =>
    refine decide_eq_true ?_
    rw [List.filter_eq_nil_iff.mpr fun k hk => by
      have := List.any_eq_false.mp e k hk
      exact this]
    rfl
/-! vectors as data -/
abbrev Dv (v : Vc) : List PyData := v.map fun c => .tuple [.int c.1, .int c.2]
theorem dv_all {K : PySem.W.Frag} {H : Hp} : ∀ {ps : List Addr} {v : Vc}, Prs K H ps v → DpAll K H (ps.map V.ref) (Dv v)
  | _, _, .nil => .nil
  | _, _, .cons (b := c) a b => .cons (.tup (xs := [.int c.1, .int c.2]) a (.cons (.int _) (.cons (.int _) .nil))) (dv_all b)
theorem dv_eqv : ∀ v w : Vc, PyData.eqvAll (Dv v) (Dv w) = decide (v = w)
  | [], [] => by
    simp [PyData.eqvAll]
  | [], _ :: _ => by
    simp [PyData.eqvAll]
  | _ :: _, [] => by
    simp [PyData.eqvAll]
  | c :: v, d :: w => by
    have ih := dv_eqv v w
    show (PyData.eqvAll (Di [c.1, c.2]) (Di [d.1, d.2]) && PyData.eqvAll (Dv v) (Dv w)) = _
    rw [ih, eqvAll_ints]
    obtain ⟨c1, c2⟩ := c
    obtain ⟨d1, d2⟩ := d
    by_cases h1 : c1 = d1 <;> by_cases h2 : c2 = d2 <;> by_cases h3 : v = w <;> simp [h1, h2, h3]
theorem dv_can : ∀ v : Vc, PyData.canLayAll0 (Dv v) = true
  | [] => rfl
  | c :: v => by
    show (PyData.canLayAll0 (Di [c.1, c.2]) && PyData.canLayAll0 (Dv v)) = true
    rw [dv_can v, canAll_ints]; rfl
theorem dv_depth : ∀ v : Vc, PyData.depthAll (Dv v) ≤ 1
  | [] => by
    show 0 ≤ 1
    omega
  | c :: v => by
    have ih := dv_depth v
    show max (PyData.depthAll (Di [c.1, c.2]) + 1) (PyData.depthAll (Dv v)) ≤ 1
    rw [Vf.depthAll_ints]
    omega
theorem e_neVV {K : PySem.W.Frag} {H : Hp} {Q : VK} {a b : Addr} {v w : Vc} (h1 : Vec K H a v) (h2 : Vec K H b w) (q : Q (.bl (!decide (v = w))) H) : rNeD K (.ref a) (.ref b) H Q := by
  obtain ⟨ps, s1, p1⟩ := h1
  obtain ⟨qs, s2, p2⟩ := h2
  refine ⟨_, _, .tup s1 (dv_all p1), .tup s2 (dv_all p2), shaped_tuple (dv_can v) (Nat.le_trans (dv_depth v) (by decide)), shaped_tuple (dv_can w) (Nat.le_trans (dv_depth w) (by decide)), ?_⟩
  rw [show PyData.eqv (.tuple (Dv v)) (.tuple (Dv w)) = PyData.eqvAll (Dv v) (Dv w) from rfl, dv_eqv]
  exact q
theorem e_tFld {K : PySem.W.Frag} {ta : TE} {f : Str} {σ : L2.St} {H : Hp} {Q : VK} (q : ta σ H fun x H1 => ∃ a C dx fs v, x = .ref a ∧ H1 a = some (.ins C dx fs) ∧ Cls K C ∧ NoAttr K C f ∧ fs.lookup f = some v ∧ Q v H1) : tFld K ta f σ H Q := q
theorem e_sFld {K : PySem.W.Frag} {ta tv : TE} {f : Str} {D : Ends} {σ : L2.St} {H : Hp} (q : tv σ H fun y H1 => ta σ H1 fun x H2 => ∃ a C dx fs, x = .ref a ∧ H2 a = some (.ins C dx fs) ∧ Cls K C ∧ NoAttr K C f ∧ fs.length < 1000 ∧ D.nx σ (upd H2 a (.ins C dx (putF f y fs)))) : sFld K ta tv f D σ H := q
theorem e_maxF {K : PySem.W.Frag} {sp : Sp} {ta : TA} {σ : L2.St} {H : Hp} {Q : VK} (q : ta σ H fun vs H1 => rMaxF K sp vs H1 Q) : tMaxF K sp ta σ H Q := q
theorem e_js {t : TE} {ts : List TE} {acc : Str} {σ : L2.St} {H : Hp} {Q : Str → Hp → Prop} (q : t σ H fun x H1 => ∃ y : Str, x = .str y ∧ (acc ++ y).length ≤ sizeLine ∧ tJs ts (acc ++ y) σ H1 Q) : tJs (t :: ts) acc σ H Q := q
theorem e_js0 {acc : Str} {σ : L2.St} {H : Hp} {Q : Str → Hp → Prop} (q : Q acc H) : tJs [] acc σ H Q := q
theorem e_fmt {te : TE} {σ : L2.St} {H : Hp} {Q : VK} (q : te σ H fun x H1 => (∃ y : Str, x = .str y ∧ y.length ≤ sizeLine ∧ Q (.str y) H1) ∨ ∃ i : Int, x = .int i ∧ i.natAbs.log2 < 1920 ∧ Q (.str (toString i)) H1) : tFmt te σ H Q := q
mutual
theorem dp_same {K : PySem.W.Frag} {H H' : Hp} (e : Same H H') : ∀ {v : V} {d : PyData}, Dp K H v d → Dp K H' v d
  | _, _, .non => .non
  | _, _, .bl b => .bl b
  | _, _, .int i => .int i
  | _, _, .str x => .str x
  | _, _, .lst h a => .lst (e.seq h) (dpa_same e a)
  | _, _, .tup h a => .tup (same_tup e h) (dpa_same e a)
theorem dpa_same {K : PySem.W.Frag} {H H' : Hp} (e : Same H H') : ∀ {v : List V} {d : List PyData}, DpAll K H v d → DpAll K H' v d
  | _, _, .nil => .nil
  | _, _, .cons a b => .cons (dp_same e a) (dpa_same e b)
end
/-! entries -/
abbrev cEnt (K : PySem.W.Frag) : Addr := He.ga K "Entry"
structure ET (K : PySem.W.Frag) : Prop where
  cl : Cls K (cEnt K)
  n1 : NoAttr K (cEnt K) "name"
  n2 : NoAttr K (cEnt K) "vector"
  n3 : NoAttr K (cEnt K) "height"
  n4 : NoAttr K (cEnt K) "maker"
  n5 : NoAttr K (cEnt K) "deleted"
  n6 : NoAttr K (cEnt K) "time"
  n7 : NoAttr K (cEnt K) "blocks"
structure En where
  nm : Str
  f : Nat → Int
  ht : Int
  mr : Int × Int
  dl : Bool
  tm : Int
  bl : List Int
def fs7 (n v h m d t b : V) : List (Str × V) := putF "blocks" b (putF "time" t (putF "deleted" d (putF "maker" m (putF "height" h (putF "vector" v (putF "name" n []))))))
def VecB (p : Bool) (K : PySem.W.Frag) (H : Hp) (v : Addr) (w : Vc) : Prop := Vec K H v w ∧ (p = true → PVec K H v w)
theorem VecB.same {p : Bool} {K : PySem.W.Frag} {H H' : Hp} {v : Addr} {w : Vc} (h : VecB p K H v w) (e : Same H H') : VecB p K H' v w := ⟨h.1.same e, fun z => (h.2 z).same e⟩
theorem VecB.of {p : Bool} {K : PySem.W.Frag} {H : Hp} {v : Addr} {w : Vc} (h : PVec K H v w) : VecB p K H v w := ⟨h.vec, fun _ => h⟩
def Ent (K : PySem.W.Frag) (H : Hp) (p : Bool) (a : Addr) (e : En) : Prop := ∃ (dx v m b : Addr) (fs : List (Str × V)), H a = some (.ins (cEnt K) dx fs) ∧
  (fs.lookup ("name" : Str) = some (.str e.nm) ∧ fs.lookup ("vector" : Str) = some (.ref v) ∧ fs.lookup ("height" : Str) = some (.int e.ht) ∧ fs.lookup ("maker" : Str) = some (.ref m) ∧ fs.lookup ("deleted" : Str) = some (.bl e.dl) ∧ fs.lookup ("time" : Str) = some (.int e.tm) ∧ fs.lookup ("blocks" : Str) = some (.ref b)) ∧
  VecB p K H v (made e.f) ∧ SqT K H m [.int e.mr.1, .int e.mr.2] ∧ SqT K H b (e.bl.map V.int)
theorem Ent.same {K : PySem.W.Frag} {H H' : Hp} {p : Bool} {a : Addr} {e : En} (h : Ent K H p a e) (s : Same H H') : Ent K H' p a e := by
  obtain ⟨dx, v, m, b, fs, h1, h2, h3, h4, h5⟩ := h
  exact ⟨dx, v, m, b, fs, s _ _ h1, h2, h3.same s, same_tup s h4, same_tup s h5⟩
theorem Ent.weak {K : PySem.W.Frag} {H : Hp} {p : Bool} {a : Addr} {e : En} (h : Ent K H p a e) : Ent K H false a e := by
  obtain ⟨dx, v, m, b, fs, h1, h2, h3, h4, h5⟩ := h
  exact ⟨dx, v, m, b, fs, h1, h2, ⟨h3.1, fun z => nomatch z⟩, h4, h5⟩
theorem sq_updE {K : PySem.W.Frag} {H : Hp} {p E : Addr} {xs l : List V} {o : HO} (h : SqT K H p xs) (e : H E = some (.lst l)) : SqT K (upd H E o) p xs := by
  rcases h with (h | ⟨c9, h⟩) | h
  · exact .inl (.inl (by rw [upd_ne (fun z => by rw [z, e] at h; cases h)]; exact h))
  · exact .inl (.inr ⟨c9, by rw [upd_ne (fun z => by rw [z, e] at h; cases h)]; exact h⟩)
  · exact .inr h
theorem pl_updE {H : Hp} {p E : Addr} {xs l : List V} {o : HO} (h : PlT H p xs) (e : H E = some (.lst l)) : PlT (upd H E o) p xs := by
  obtain ⟨c9, hd, h⟩ := h
  exact ⟨c9, hd, by rw [upd_ne (fun z => by rw [z, e] at h; cases h)]; exact h⟩
theorem prs_updE {K : PySem.W.Frag} {H : Hp} {E : Addr} {l : List V} {o : HO} {ps : List Addr} {v : Vc} (h : Prs K H ps v) (e : H E = some (.lst l)) : Prs K (upd H E o) ps v := paired_imp (fun _ _ q => sq_updE q e) h
theorem Ent.updE {K : PySem.W.Frag} {H : Hp} {p : Bool} {a E : Addr} {e : En} {l : List V} {o : HO} (h : Ent K H p a e) (he : H E = some (.lst l)) : Ent K (upd H E o) p a e := by
  obtain ⟨dx, v, m, b, fs, h1, h2, ⟨⟨ps, q1, q2⟩, h3⟩, h4, h5⟩ := h
  refine ⟨dx, v, m, b, fs, by rw [upd_ne (fun z => by rw [z, he] at h1; cases h1)]; exact h1, h2, ⟨⟨ps, sq_updE q1 he, prs_updE q2 he⟩, fun z => ?_⟩, sq_updE h4 he, sq_updE h5 he⟩
  obtain ⟨qs, r1, r2⟩ := h3 z
  exact ⟨qs, pl_updE r1 he, prs_updE r2 he⟩
section
variable {K : PySem.W.Frag} {H : Hp} {p : Bool} {a : Addr} {e : En} {P : V → Prop}
theorem f_name (t : ET K) (h : Ent K H p a e) (q : P (.str e.nm)) : ∃ a' C dx fs v, V.ref a = .ref a' ∧ H a' = some (.ins C dx fs) ∧ Cls K C ∧ NoAttr K C "name" ∧ fs.lookup ("name" : Str) = some v ∧ P v := by
  obtain ⟨dx, v, m, b, fs, h1, h2, h3, h4, h5⟩ := h
  exact ⟨a, _, dx, fs, _, rfl, h1, t.cl, t.n1, h2.1, q⟩
theorem f_vector (t : ET K) (h : Ent K H p a e) (q : ∀ v, VecB p K H v (made e.f) → P (.ref v)) : ∃ a' C dx fs v, V.ref a = .ref a' ∧ H a' = some (.ins C dx fs) ∧ Cls K C ∧ NoAttr K C "vector" ∧ fs.lookup ("vector" : Str) = some v ∧ P v := by
  obtain ⟨dx, v, m, b, fs, h1, h2, h3, h4, h5⟩ := h
  exact ⟨a, _, dx, fs, _, rfl, h1, t.cl, t.n2, h2.2.1, q v h3⟩
theorem f_height (t : ET K) (h : Ent K H p a e) (q : P (.int e.ht)) : ∃ a' C dx fs v, V.ref a = .ref a' ∧ H a' = some (.ins C dx fs) ∧ Cls K C ∧ NoAttr K C "height" ∧ fs.lookup ("height" : Str) = some v ∧ P v := by
  obtain ⟨dx, v, m, b, fs, h1, h2, h3, h4, h5⟩ := h
  exact ⟨a, _, dx, fs, _, rfl, h1, t.cl, t.n3, h2.2.2.1, q⟩
theorem f_maker (t : ET K) (h : Ent K H p a e) (q : ∀ m, SqT K H m [.int e.mr.1, .int e.mr.2] → P (.ref m)) : ∃ a' C dx fs v, V.ref a = .ref a' ∧ H a' = some (.ins C dx fs) ∧ Cls K C ∧ NoAttr K C "maker" ∧ fs.lookup ("maker" : Str) = some v ∧ P v := by
  obtain ⟨dx, v, m, b, fs, h1, h2, h3, h4, h5⟩ := h
  exact ⟨a, _, dx, fs, _, rfl, h1, t.cl, t.n4, h2.2.2.2.1, q m h4⟩
theorem f_deleted (t : ET K) (h : Ent K H p a e) (q : P (.bl e.dl)) : ∃ a' C dx fs v, V.ref a = .ref a' ∧ H a' = some (.ins C dx fs) ∧ Cls K C ∧ NoAttr K C "deleted" ∧ fs.lookup ("deleted" : Str) = some v ∧ P v := by
  obtain ⟨dx, v, m, b, fs, h1, h2, h3, h4, h5⟩ := h
  exact ⟨a, _, dx, fs, _, rfl, h1, t.cl, t.n5, h2.2.2.2.2.1, q⟩
theorem f_time (t : ET K) (h : Ent K H p a e) (q : P (.int e.tm)) : ∃ a' C dx fs v, V.ref a = .ref a' ∧ H a' = some (.ins C dx fs) ∧ Cls K C ∧ NoAttr K C "time" ∧ fs.lookup ("time" : Str) = some v ∧ P v := by
  obtain ⟨dx, v, m, b, fs, h1, h2, h3, h4, h5⟩ := h
  exact ⟨a, _, dx, fs, _, rfl, h1, t.cl, t.n6, h2.2.2.2.2.2.1, q⟩
theorem f_blocks (t : ET K) (h : Ent K H p a e) (q : ∀ b, SqT K H b (e.bl.map V.int) → P (.ref b)) : ∃ a' C dx fs v, V.ref a = .ref a' ∧ H a' = some (.ins C dx fs) ∧ Cls K C ∧ NoAttr K C "blocks" ∧ fs.lookup ("blocks" : Str) = some v ∧ P v := by
  obtain ⟨dx, v, m, b, fs, h1, h2, h3, h4, h5⟩ := h
  exact ⟨a, _, dx, fs, _, rfl, h1, t.cl, t.n7, h2.2.2.2.2.2.2, q b h5⟩
end
theorem fs7_ok (n v h m d t b : V) : (fs7 n v h m d t b).lookup ("name" : Str) = some n ∧ (fs7 n v h m d t b).lookup ("vector" : Str) = some v ∧ (fs7 n v h m d t b).lookup ("height" : Str) = some h ∧ (fs7 n v h m d t b).lookup ("maker" : Str) = some m ∧
    (fs7 n v h m d t b).lookup ("deleted" : Str) = some d ∧ (fs7 n v h m d t b).lookup ("time" : Str) = some t ∧ (fs7 n v h m d t b).lookup ("blocks" : Str) = some b := by
  unfold fs7
  refine ⟨?_, ?_, ?_, ?_, ?_, ?_, ?_⟩ <;> (repeat (rw [lookup_putF]; first | rw [if_pos rfl] | rw [if_neg (by decide)]))
/-- a new entry -/
theorem ent_made {K : PySem.W.Frag} {H : Hp} {p : Bool} {a v m b dx : Addr} (e : En) (h : H a = some (.ins (cEnt K) dx (fs7 (.str e.nm) (.ref v) (.int e.ht) (.ref m) (.bl e.dl) (.int e.tm) (.ref b)))) (hv : VecB p K H v (made e.f)) (hm : SqT K H m [.int e.mr.1, .int e.mr.2]) (hb : SqT K H b (e.bl.map V.int)) : Ent K H p a e :=
  ⟨dx, v, m, b, _, h, fs7_ok .., hv, hm, hb⟩
def sp_Entry___init__ (K : PySem.W.Frag) : Sp := fun vs H Q _ => ∃ x n v h m d t b, vs = [x, n, v, h, m, d, t, b] ∧ ∃ a dx, x = .ref a ∧ H a = some (.ins (cEnt K) dx []) ∧ Q .non (upd H a (.ins (cEnt K) dx (fs7 n v h m d t b)))
theorem e_mkE {K : PySem.W.Frag} {H1 : Hp} {P : Addr → Hp → Prop} {n v h m d t b : V} (q : ∀ a H' dx, H1 a = none → Same H1 H' → H' a = some (.ins (cEnt K) dx (fs7 n v h m d t b)) → P a H') :
    ∀ x dx, H1 x = none → H1 dx = none → dx ≠ x → sp_Entry___init__ K (.ref x :: ([n, v, h, m, d, t, b] ++ [])) (upd (upd H1 dx (.own x)) x (.ins (cEnt K) dx [])) (fun u H2 => u = .non ∧ P x H2) E0 := by
  intro x dx hx hdx ne
  refine ⟨_, _, _, _, _, _, _, _, rfl, x, dx, rfl, upd_same, rfl, ?_⟩
  rw [upd_upd]
  exact q x _ dx hx (Same.mut (same_new hdx) hx) upd_same
def enEq (e g : En) : Bool := decide (e.nm = g.nm) && (decide (made e.f = made g.f) && (decide (e.ht = g.ht) && (decide (e.mr = g.mr) && ((e.dl == g.dl) && (decide (e.tm = g.tm) && decide (e.bl = g.bl))))))
def sp_Entry___eq__ (K : PySem.W.Frag) : Sp := sp2 fun x y H Q => ∃ (a : Addr) (p : Bool) (e : En), x = .ref a ∧ Ent K H p a e ∧
  ((∃ (b : Addr) (p2 : Bool) (g : En), y = .ref b ∧ Ent K H p2 b g ∧ Q (.bl (enEq e g)) H) ∨ (∃ (t : Addr) (ys : List V), y = .ref t ∧ H t = some (.lst ys) ∧ Q (.bl false) H))
/-- two entries compared -/
theorem e_eqEE {K : PySem.W.Frag} {H : Hp} {Q : VK} {a b : Addr} {p p2 : Bool} {e g : En} (h1 : Ent K H p a e) (h2 : Ent K H p2 b g) (q : Q (.bl (enEq e g)) H) : rEqOL K (cEnt K) (sp_Entry___eq__ K) E0 (.ref a) (.ref b) H Q := by
  obtain ⟨dx, v, m, bb, fs, k1, _⟩ := id h1
  obtain ⟨dy, v2, m2, bb2, gs, k2, _⟩ := id h2
  exact ⟨a, b, dx, fs, rfl, rfl, k1, .inl ⟨dy, gs, k2⟩, _, _, rfl, a, p, e, rfl, h1, .inl ⟨b, p2, g, rfl, h2, _, rfl, q⟩⟩
theorem enEq_self (e : En) : enEq e e = true := by
  unfold enEq
  simp
/-! keys -/
def KeyT (K : PySem.W.Frag) (H : Hp) (r : Addr) (e : En) : Prop := ∃ c, SqT K H r [.int e.ht, .int e.tm, .int (if e.dl = true then 0 else 1), .int (-e.mr.1), .int (-e.mr.2), .ref c] ∧ SqT K H c ((row9 e.f).map V.int)
def kdE (e : En) : PyData := .tuple [.int e.ht, .int e.tm, .int (if e.dl = true then 0 else 1), .int (-e.mr.1), .int (-e.mr.2), .tuple (Di (row9 e.f))]
theorem key_dp {K : PySem.W.Frag} {H : Hp} {r : Addr} {e : En} (h : KeyT K H r e) : Dp K H (.ref r) (kdE e) := by
  obtain ⟨c, h1, h2⟩ := h
  exact .tup h1 (.cons (.int _) (.cons (.int _) (.cons (.int _) (.cons (.int _) (.cons (.int _) (.cons (dp_ti h2) .nil))))))
theorem KeyT.same {K : PySem.W.Frag} {H H' : Hp} {r : Addr} {e : En} (h : KeyT K H r e) (s : Same H H') : KeyT K H' r e := by
  obtain ⟨c, h1, h2⟩ := h
  exact ⟨c, same_tup s h1, same_tup s h2⟩
theorem kdE_plain (e : En) : (kdE e).plain = true := by simp [kdE, PyData.plain, PyData.plainAll, plain_ints]
theorem kdE_depth (e : En) : (kdE e).depth ≤ 60 := by
  show PyData.depthAll [.int e.ht, .int e.tm, .int (if e.dl = true then 0 else 1), .int (-e.mr.1), .int (-e.mr.2), .tuple (Di (row9 e.f))] + 1 ≤ 60
  simp [PyData.depthAll, PyData.depth, Vf.depthAll_ints]
theorem kdE_self (e : En) : PyData.eqv (kdE e) (kdE e) = true := by simp [kdE, PyData.eqv, PyData.eqvAll, eqvAll_ints]
theorem kdE_alike (e g : En) : PySem.W.alike (kdE e) (kdE g) = true := by simp [kdE, PySem.W.alike, PySem.W.alikeAll, alikeAll_ints]
def spKey (K : PySem.W.Frag) : Sp := sp1 fun x H Q => ∃ (a : Addr) (p : Bool) (e : En), x = .ref a ∧ Ent K H p a e ∧ (∀ k, 0 ≤ e.f k) ∧ ∀ (r : Addr) (H' : Hp), Same H H' → KeyT K H' r e → Q (.ref r) H'
abbrev sp_key_of := spKey
def alk (e g : En) : Bool := (e.dl == g.dl) && decide (e.bl = g.bl)
def sp_alike (K : PySem.W.Frag) : Sp := sp2 fun x y H Q => ∃ (a b : Addr) (p p2 : Bool) (e g : En), x = .ref a ∧ y = .ref b ∧ Ent K H p a e ∧ Ent K H p2 b g ∧ Q (.bl (alk e g)) H
abbrev Ents (K : PySem.W.Frag) (H : Hp) (p : Bool) (ps : List Addr) (es : List En) : Prop := Paired (fun a e => Ent K H p a e) ps es
theorem ents_same {K : PySem.W.Frag} {H H' : Hp} {p : Bool} {ps : List Addr} {es : List En} (s : Same H H') (h : Ents K H p ps es) : Ents K H' p ps es := paired_imp (fun _ _ q => q.same s) h
def dE : En := ⟨"", fun _ => 0, 0, (0, 0), false, 0, []⟩
def kdL (es : List En) (i : Nat) : PyData := kdE (es.getD i dE)
def enB (es : List En) : En := es.getD (mxI (kdL es) es.length) dE
def wf (es : List En) (b : En) (f : Nat → Int) : Nat → Int := es.foldl (fun f e => if alk e b = true then fun k => mx (f k) (e.f k) else f) f
def winE (es : List En) : En := { enB es with f := wf es (enB es) (enB es).f }
def spWin (K : PySem.W.Frag) : Sp := sp1 fun x H Q => ∃ (a : Addr) (ps : List Addr) (es : List En), x = .ref a ∧ SqL K H a (ps.map V.ref) ∧ Ents K H true ps es ∧ (∀ e ∈ es, ∀ k, 0 ≤ e.f k) ∧ 0 < es.length ∧ es.length ≤ 100 ∧
  ∀ (r : Addr) (H' : Hp), Same H H' → Ent K H' true r (winE es) → Q (.ref r) H'
abbrev sp_winner := spWin
abbrev sp_law_winner := spWin
/-! the mathematics of winners -/
theorem fold_up (k : Nat) : ∀ (l : List En) (x y : Int), (∃ e ∈ l, x ≤ e.f k) → y ≤ x → l.foldl (fun x e => mx x (e.f k)) x = l.foldl (fun x e => mx x (e.f k)) y
  | [], x, y, h, _ => by obtain ⟨e, he, _⟩ := h; cases he
  | e :: r, x, y, h, hy => by
    show r.foldl _ (mx x (e.f k)) = r.foldl _ (mx y (e.f k))
    by_cases hx : x ≤ e.f k
    · have e1 : mx x (e.f k) = e.f k := by unfold mx; split <;> omega
      have e2 : mx y (e.f k) = e.f k := by unfold mx; split <;> omega
      rw [e1, e2]
    · have e1 : mx x (e.f k) = x := by unfold mx; split <;> omega
      have e2 : mx y (e.f k) ≤ x := by unfold mx; split <;> omega
      rw [e1]
      refine fold_up k r x _ ?_ e2
      obtain ⟨g, hg, h⟩ := h
      rcases List.mem_cons.mp hg with rfl | hg
      · exact absurd h hx
      · exact ⟨g, hg, h⟩
theorem wf_at (b : En) (k : Nat) : ∀ (es : List En) (f : Nat → Int), wf es b f k = (es.filter fun e => alk e b).foldl (fun x e => mx x (e.f k)) (f k)
  | [], f => rfl
  | e :: r, f => by
    show wf r b (if alk e b = true then fun k => mx (f k) (e.f k) else f) k = _
    rw [wf_at b k r]
    by_cases h : alk e b = true
    · rw [if_pos h, List.filter_cons_of_pos (p := fun e => alk e b) h]; rfl
    · rw [if_neg h, List.filter_cons_of_neg (p := fun e => alk e b) h]
theorem alk_self (e : En) : alk e e = true := by unfold alk; simp
theorem wf_zero {es : List En} {b : En} (hb : b ∈ es) (hn : ∀ k, 0 ≤ b.f k) : wf es b b.f = wf es b fun _ => 0 := by
  funext k
  rw [wf_at, wf_at]
  exact fold_up k _ _ _ ⟨b, List.mem_filter.mpr ⟨hb, alk_self b⟩, Int.le_refl _⟩ (hn k)
theorem wf_nn {es : List En} {b : En} (he : ∀ e ∈ es, ∀ k, 0 ≤ e.f k) : ∀ {f : Nat → Int}, (∀ k, 0 ≤ f k) → ∀ k, 0 ≤ wf es b f k := by
  induction es with
  | nil => intro f hf; exact hf
  | cons e r ih =>
    intro f hf
    show ∀ k, 0 ≤ wf r b (if alk e b = true then fun k => mx (f k) (e.f k) else f) k
    refine ih (fun e he2 => he e (List.mem_cons_of_mem _ he2)) fun k => ?_
    have h1 := hf k
    have h2 := he e (List.mem_cons_self ..) k
    split
    · show 0 ≤ mx (f k) (e.f k)
      unfold mx
      split <;> omega
    · exact h1
theorem made_zero : made (fun _ => 0) = [] := by
  unfold made madeN
  rw [List.filter_eq_nil_iff.mpr fun k _ => by simp]
  rfl
theorem made_one {j : Nat} (hj : j < 9) {n : Int} (hn : 0 < n) : made (fun k => if k = j then n else 0) = [(((j : Nat) : Int) + 1, n)] := by
  have h : j = 0 ∨ j = 1 ∨ j = 2 ∨ j = 3 ∨ j = 4 ∨ j = 5 ∨ j = 6 ∨ j = 7 ∨ j = 8 := by omega
  unfold made madeN
  rcases h with h | h | h | h | h | h | h | h | h <;> subst h <;> simp [List.range, List.range.loop, hn]
theorem for_ents {K : PySem.W.Frag} {g : TG} {t : TS} {D : Ends} {σ : L2.St} {H H0 : Hp} {a : Addr} {ps : List Addr} {es : List En} {p : Bool} (hS : SqL K H0 a (ps.map V.ref)) (hP : Ents K H0 p ps es) (Pv : List En → L2.St → Hp → Prop) (h0 : Pv [] σ H) (hl : ∀ pre σ H, Pv pre σ H → Same H0 H)
    (hs : ∀ (pre : List En) (e : En) (post : List En) (q : Addr) σ H, es = pre ++ e :: post → Pv pre σ H → ps[pre.length]? = some q → Ent K H p q e → g (.ref q) σ H fun σ2 H2 => t { D with nx := Pv (pre ++ [e]), ct := Pv (pre ++ [e]), bk := D.nx } σ2 H2)
    (hd : ∀ σ H, Pv es σ H → D.nx σ H) : ForB (Itl K a) g t D σ H := by
  refine for_list (xs := ps.map V.ref) (fun i => Pv (es.take i)) (by simpa using h0) (fun i σ H _ q => (hl _ σ H q).seq hS) (fun i x σ H hx q => ?_) (fun σ H q => ?_)
  · rw [List.getElem?_map] at hx
    obtain ⟨r, hr, rfl⟩ := Option.map_eq_some_iff.mp hx
    obtain ⟨e, he, hE⟩ := paired_get hP i r hr
    have hi := (List.getElem?_eq_some_iff.mp he).1
    have e2 := (List.getElem?_eq_some_iff.mp he).2
    have e1 : es = es.take i ++ e :: es.drop (i + 1) := by rw [← e2, List.getElem_cons_drop, List.take_append_drop]
    have el : (es.take i).length = i := by rw [List.length_take]; omega
    rw [List.take_add_one, he]
    exact hs _ e _ r σ H e1 q (by rw [el]; exact hr) (hE.same (hl _ σ H q))
  · rw [List.length_map, paired_len hP, List.take_length] at q
    exact hd σ H q
theorem len_put {f : Str} {v : V} : ∀ {fs : List (Str × V)} {n : Nat}, fs.length ≤ n → (putF f v fs).length ≤ n + 1
  | [], n, h => by show 1 ≤ n + 1; omega
  | (g, x) :: r, n, h => by
    show (if g = f then (g, v) :: r else (g, x) :: putF f v r).length ≤ n + 1
    rw [List.length_cons] at h
    by_cases e : g = f
    · rw [if_pos e, List.length_cons]; omega
    · rw [if_neg e, List.length_cons]
      have := len_put (f := f) (v := v) (fs := r) (n := n - 1) (by omega)
      omega
theorem lt_put {fs : List (Str × V)} (h : fs.length ≤ 8) : fs.length < 1000 := Nat.lt_of_le_of_lt h (by decide)
theorem dv_plain : ∀ v : Vc, PyData.plainAll (Dv v) = true
  | [] => by simp [PyData.plainAll]
  | c :: v => by
    show PyData.plainAll (.tuple (Di [c.1, c.2]) :: Dv v) = true
    rw [PyData.plainAll, dv_plain v, PyData.plain, plain_ints]
    rfl
theorem dp_vec {K : PySem.W.Frag} {H : Hp} {a : Addr} {v : Vc} (h : Vec K H a v) : Dp K H (.ref a) (.tuple (Dv v)) := by
  obtain ⟨ps, s1, p1⟩ := h
  exact .tup s1 (dv_all p1)
theorem e_eqPVV {K : PySem.W.Frag} {H : Hp} {Q : VK} {a b : Addr} {v w : Vc} (h1 : Vec K H a v) (h2 : Vec K H b w) (q : Q (.bl (decide (v = w))) H) : rEqP K (.ref a) (.ref b) H Q :=
  e_eqPV (dp_vec h1) (dp_vec h2) (by simp [PyData.plain, dv_plain]) (by simp [PyData.plain, dv_plain]) (by
    show PyData.depthAll (Dv v) + 1 ≤ 60
    have := dv_depth v
    omega) (by show PyData.eqvAll (Dv v) (Dv w) = _; exact dv_eqv v w) q
theorem max_made2 {f g : Nat → Int} (hf : ∀ k, 0 ≤ f k) {k : Nat} (hk : k < 9) : told (fun c x => mx x c) (made g) (((k : Nat) : Int) + 1) (f k) = mx (f k) (g k) := by
  rw [told_madeN]
  have := hf k
  by_cases h : 0 < g k
  · rw [if_pos ⟨hk, h⟩]
  · rw [if_neg (by omega)]
    unfold mx
    rw [if_neg (by omega)]
theorem getD_of {es : List En} {i : Nat} {e : En} (h : es[i]? = some e) : es.getD i dE = e := by rw [List.getD_eq_getElem?_getD, h]; rfl
theorem enEq_ne {e g : En} (h : ¬ (e.nm = g.nm ∧ made e.f = made g.f ∧ e.ht = g.ht ∧ e.mr = g.mr ∧ e.dl = g.dl ∧ e.tm = g.tm ∧ e.bl = g.bl)) : enEq e g = false := by
  cases z : enEq e g with
  | false => rfl
  | true =>
    refine absurd ?_ h
    unfold enEq at z
    simpa using z
theorem vec_updE {K : PySem.W.Frag} {H : Hp} {a E : Addr} {v : Vc} {l : List V} {o : HO} (h : Vec K H a v) (e : H E = some (.lst l)) : Vec K (upd H E o) a v := by
  obtain ⟨ps, h1, h2⟩ := h
  exact ⟨ps, sq_updE h1 e, prs_updE h2 e⟩
/-! ### what stands but at some places -/
def Fr (S : List Addr) (H H' : Hp) : Prop := ∀ x o, x ∉ S → H x = some o → H' x = some o
theorem Fr.of {S : List Addr} {H H' : Hp} (h : Same H H') : Fr S H H' := fun x o _ e => h x o e
theorem Fr.refl (S : List Addr) (H : Hp) : Fr S H H := fun _ _ _ e => e
theorem Fr.trans {S : List Addr} {H H1 H2 : Hp} (h : Fr S H H1) (g : Fr S H1 H2) : Fr S H H2 := fun x o n e => g x o n (h x o n e)
theorem Fr.same {S : List Addr} {H H1 H2 : Hp} (h : Fr S H H1) (g : Same H1 H2) : Fr S H H2 := fun x o n e => g x o (h x o n e)
theorem Fr.put {S : List Addr} {H H1 : Hp} {a : Addr} {o : HO} (h : Fr S H H1) (m : a ∈ S) : Fr S H (upd H1 a o) := fun x o' n e => by
  rw [upd_ne fun z => n (by rw [z]; exact m)]
  exact h x o' n e
theorem Fr.mono {S S' : List Addr} {H H1 : Hp} (h : Fr S H H1) (m : ∀ x ∈ S, x ∈ S') : Fr S' H H1 := fun x o n e => h x o (fun z => n (m x z)) e
theorem Fr.mut {S : List Addr} {H H1 : Hp} {a : Addr} {o : HO} (h : Fr S H H1) (m : H a = none) : Fr S H (upd H1 a o) := fun x o' n e => by
  rw [upd_ne (ne_of_none e m)]
  exact h x o' n e
theorem Fr.put2 {S : List Addr} {H H1 : Hp} {a : Addr} {o : HO} (h : Fr S H H1) (m : a ∈ S ∨ H a = none) : Fr S H (upd H1 a o) := m.elim (fun m => h.put m) fun m => h.mut m
/-! ### the heap without some places -/
def hid (D : List Addr) (H : Hp) : Hp := fun b => if b ∈ D then none else H b
theorem hid_at {D : List Addr} {H : Hp} {b : Addr} (n : b ∉ D) : hid D H b = H b := by unfold hid; rw [if_neg n]
theorem hid_in {D : List Addr} {H : Hp} {b : Addr} (m : b ∈ D) : hid D H b = none := by unfold hid; rw [if_pos m]
theorem hid_some {D : List Addr} {H : Hp} {b : Addr} {o : HO} (h : hid D H b = some o) : b ∉ D ∧ H b = some o := by
  by_cases m : b ∈ D
  · rw [hid_in m] at h; cases h
  · rw [hid_at m] at h; exact ⟨m, h⟩
theorem hid_upd {D : List Addr} {H : Hp} {p : Addr} {o : HO} (n : p ∉ D) : hid D (upd H p o) = upd (hid D H) p o := by
  funext b
  by_cases e : b = p
  · rw [e, hid_at n, upd_same, upd_same]
  · rw [upd_ne e]
    by_cases m : b ∈ D
    · rw [hid_in m, hid_in m]
    · rw [hid_at m, hid_at m, upd_ne e]
theorem hid_upd_in {D : List Addr} {H : Hp} {p : Addr} {o : HO} (m : p ∈ D) : hid D (upd H p o) = hid D H := by
  funext b
  by_cases m2 : b ∈ D
  · rw [hid_in m2, hid_in m2]
  · rw [hid_at m2, hid_at m2, upd_ne fun e => m2 (by rw [e]; exact m)]
theorem hid_fr {D : List Addr} {H H' : Hp} (f : Fr D H H') : Same (hid D H) (hid D H') := fun b o h => by
  obtain ⟨n, e⟩ := hid_some h
  rw [hid_at n]
  exact f b o n e
theorem hid_same {D : List Addr} {H H' : Hp} (s : Same H H') : Same (hid D H) (hid D H') := hid_fr (Fr.of s)
theorem hid_sub {D : List Addr} {H : Hp} : Same (hid D H) H := fun b o h => (hid_some h).2
theorem hid_nil {H : Hp} : hid [] H = H := by funext b; exact hid_at (by simp)
theorem hid_none {D : List Addr} {H : Hp} {b : Addr} (h : H b = none) : hid D H b = none := by
  by_cases m : b ∈ D
  · exact hid_in m
  · rw [hid_at m]; exact h
theorem hid_new {H : Hp} {D p : Addr} {o o' : HO} (hD : H D = some o') (hp : H p = none) : hid [D] (upd H p o) = upd (hid [D] H) p o := hid_upd (by
  intro m
  rw [List.mem_singleton.mp m, hD] at hp
  cases hp)
/-- a list made by a comprehension whose elements stand in a relation to their places -/
theorem lc_rel {J : It} {n : Nat} {G : Hp → Prop} {Y : Nat → Hp → V → Hp → Prop} (w : Walk J n G Y) {g : TG} {te : TE} {vs : List Nat} {σ : L2.St} {Da : Addr} {H0 : Hp} {Q : VK} (hD : H0 Da = none) (hn : n ≤ 1000000)
    (hG : ∀ H, Same H0 H → G H) (R : Nat → V → Hp → Prop) (mono : ∀ i v H H', R i v H → Same H H' → R i v H')
    (hs : ∀ (i : Nat) (x : V) (H H' : Hp) (C : VK) (E : Hp → Prop) (acc : List V), i < n → Same H0 H → H Da = some (.lst acc) → Y i H x H' → (∀ v H3, Same H H3 → R i v (hid [Da] H3) → C v H3) →
      g x (wipe σ vs) H' fun σ2 H2 => wipe σ2 vs = wipe σ vs ∧ tYes σ2 H2 fun b H3 => if b = true then te σ2 H3 C else E H3)
    (hd : ∀ (H : Hp) (us : List V), Same H0 H → H Da = some (.lst us) → us.length = n → (∀ i v, us[i]? = some v → R i v (hid [Da] H)) → Q (.ref Da) H) : LcB J g tYes te vs σ Da H0 Q := by
  refine lc_it w (fun i H => Same H0 H ∧ ∃ us, H Da = some (.lst us) ∧ us.length = i ∧ ∀ j v, us[j]? = some v → R j v (hid [Da] H)) ⟨same_new hD, [], upd_same, rfl, fun j v h => by simp at h⟩ (fun i H _ p => hG H p.1) (fun i x H H' hi p y => ?_) (fun H p => ?_)
  · obtain ⟨s1, us, e1, l1, r1⟩ := p
    refine hs i x H H' _ _ _ hi s1 e1 y fun v H3 s3 r3 => ?_
    refine ⟨us, s3 _ _ e1, Nat.lt_of_le_of_lt (by omega : _ ≤ 1000000) (by decide), Same.mut (s1.trans s3) hD, us ++ [v], upd_same, by simp [l1], fun j u hj => ?_⟩
    rw [hid_upd_in (List.mem_singleton.mpr rfl)]
    by_cases hl : j < us.length
    · rw [List.getElem?_append_left hl] at hj
      exact mono _ _ _ _ (r1 j u hj) (hid_same s3)
    · rw [List.getElem?_append_right (by omega)] at hj
      have hj2 := (List.getElem?_eq_some_iff.mp hj).1
      have z : j = i := by simp at hj2; omega
      subst z
      rw [l1, Nat.sub_self] at hj
      cases hj
      exact r3
  · obtain ⟨s1, us, e1, l1, r1⟩ := p
    exact hd H us s1 e1 l1 r1
theorem kp_fr {st : Addr} {H H' : Hp} (k : Kp st H H') : Fr [st] H H' := fun x o n e => k x o (fun z => n (List.mem_singleton.mpr z)) e
theorem kp_same {st : Addr} {H H' : Hp} (k : Kp st H H') : Same (hid [st] H) (hid [st] H') := hid_fr (kp_fr k)
theorem hid_le {D E : List Addr} {H : Hp} (h : ∀ x ∈ D, x ∈ E) : Same (hid E H) (hid D H) := fun b o e => by
  obtain ⟨n, e⟩ := hid_some e
  rw [hid_at fun m => n (h b m)]
  exact e
theorem prd_mk {α β : Type} {F : α → β → Prop} : ∀ {l : List α} {m : List β}, l.length = m.length → (∀ (i : Nat) (a : α) (b : β), l[i]? = some a → m[i]? = some b → F a b) → Paired F l m
  | [], [], _, _ => .nil
  | a :: l, b :: m, e, h => .cons (h 0 a b rfl rfl) (prd_mk (by simpa using e) fun i x y h1 h2 => h (i + 1) x y h1 h2)
def NT (H : Hp) (d : Addr) : Prop := (∀ xs, H d ≠ some (.tup xs)) ∧ ∀ c xs, H d ≠ some (.frz c (.tup xs))
theorem sqT_hid {K : PySem.W.Frag} {D : List Addr} {H : Hp} {p : Addr} {xs : List V} (h : SqT K H p xs) (n : ∀ d ∈ D, NT H d) : SqT K (hid D H) p xs := by
  rcases h with (h | ⟨c9, h⟩) | h
  · exact .inl (.inl (by rw [hid_at fun m => (n p m).1 _ h]; exact h))
  · exact .inl (.inr ⟨c9, by rw [hid_at fun m => (n p m).2 _ _ h]; exact h⟩)
  · exact .inr h
theorem vec_hid {K : PySem.W.Frag} {D : List Addr} {H : Hp} {a : Addr} {v : Vc} (h : Vec K H a v) (n : ∀ d ∈ D, NT H d) : Vec K (hid D H) a v := by
  obtain ⟨ps, h1, h2⟩ := h
  exact ⟨ps, sqT_hid h1 n, paired_imp (fun _ _ q => sqT_hid q n) h2⟩
theorem nt_lst {H : Hp} {d : Addr} {xs : List V} (h : H d = some (.lst xs)) : NT H d := ⟨fun _ z => (by rw [h] at z; cases z), fun _ _ z => (by rw [h] at z; cases z)⟩
theorem e_cat {H : Hp} {Q : VK} {a b : Addr} {xs ys : List V} (h1 : H a = some (.lst xs)) (h2 : H b = some (.lst ys)) (hn : xs.length + ys.length ≤ 100000) (q : ∀ p, H p = none → Q (.ref p) (upd H p (.lst (xs ++ ys)))) : rCat (.ref a) (.ref b) H Q :=
  ⟨a, b, xs, ys, rfl, rfl, h1, h2, Nat.le_trans hn (by decide), q⟩
theorem cut_toV (xs : List V) (c : Nat) : cutV xs none (some (c : Int)) = xs.take c := by
  unfold cutV
  rw [HT.sIx_nat, show HT.sIx xs.length 0 none = 0 from rfl, List.drop_zero, Nat.sub_zero]
  by_cases h : c ≤ xs.length
  · rw [Nat.min_eq_left h]
  · rw [Nat.min_eq_right (by omega), List.take_of_length_le (Nat.le_refl _), List.take_of_length_le (by omega)]
theorem cut_fromV (xs : List V) (c : Nat) : cutV xs (some (c : Int)) none = xs.drop c := by
  unfold cutV
  rw [HT.sIx_nat, show HT.sIx xs.length xs.length none = xs.length from rfl]
  by_cases h : c ≤ xs.length
  · rw [Nat.min_eq_left h, List.take_of_length_le (by simp)]
  · rw [Nat.min_eq_right (by omega), List.drop_eq_nil_of_le (Nat.le_refl _), List.drop_eq_nil_of_le (by omega)]
    simp
/-- the state of the draws: the script's copy, a place, a number that is kept, a mixed number -/
structure Dw (K : PySem.W.Frag) (st sc : Addr) (ns : List Int) (H : Hp) : Prop where
  s : ∃ a b c : Int, 0 ≤ a ∧ 0 ≤ b ∧ (0 ≤ c ∧ c < 2147483647) ∧ H st = some (.lst [.ref sc, .int a, .int b, .int c])
  l : H sc = some (.lst (ns.map V.int))
  ne : sc ≠ st
  len : ns.length ≤ 63
theorem Dw.kp {K : PySem.W.Frag} {st sc : Addr} {ns : List Int} {H H' : Hp} (d : Dw K st sc ns H) (k : Kp st H H') (s : ∃ a b c : Int, 0 ≤ a ∧ 0 ≤ b ∧ (0 ≤ c ∧ c < 2147483647) ∧ H' st = some (.lst [.ref sc, .int a, .int b, .int c])) : Dw K st sc ns H' :=
  ⟨s, k _ _ d.ne d.l, d.ne, d.len⟩
theorem Dw.same {K : PySem.W.Frag} {st sc : Addr} {ns : List Int} {H H' : Hp} (d : Dw K st sc ns H) (k : Same H H') : Dw K st sc ns H' := by
  obtain ⟨a, b, c, h1, h2, hc, h3⟩ := d.s
  exact d.kp (Kp.of k) ⟨a, b, c, h1, h2, hc, k _ _ h3⟩
theorem Dw.free {K : PySem.W.Frag} {st sc p : Addr} {ns : List Int} {H : Hp} (d : Dw K st sc ns H) (h : H p = none) : p ≠ st := by
  obtain ⟨a, b, c, _, _, _, h3⟩ := d.s
  intro e
  rw [e, h3] at h
  cases h
theorem Dw.mut {K : PySem.W.Frag} {st sc p : Addr} {ns : List Int} {H0 H1 : Hp} {o : HO} (d0 : Dw K st sc ns H0) (d : Dw K st sc ns H1) (hp : H0 p = none) (k : Kp st H0 H1) : Dw K st sc ns (upd H1 p o) := by
  obtain ⟨a, b, c, h1, h2, hc, h3⟩ := d.s
  exact d0.kp (k.mut hp) ⟨a, b, c, h1, h2, hc, by rw [upd_ne (d0.free hp).symm]; exact h3⟩
theorem Dw.some {K : PySem.W.Frag} {st sc : Addr} {ns : List Int} {H : Hp} (d : Dw K st sc ns H) : ∃ o, H st = some o := by
  obtain ⟨a, b, c, h1, h2, hc, h3⟩ := d.s
  exact ⟨_, h3⟩
section
variable {K : PySem.W.Frag} {g : TG} {σ : L2.St} {te : TE} {vs : List Nat} {Q : VK} {Da st sc : Addr} {ns : List Int} {H0 : Hp}
/-- [e for k in range(..)], e with draws -/
theorem lc_dw {lo : Int} {n : Nat} (d0 : Dw K st sc ns H0) (hD : H0 Da = none) (hn : n ≤ 1000000) (Pe : V → Prop)
    (hs : ∀ (i : Nat) (H2 : Hp) (C : VK) (E : Hp → Prop), i < n → Kp st H0 H2 → Dw K st sc ns H2 → (∀ y H3, Kp st H2 H3 → Dw K st sc ns H3 → Pe y → C y H3) →
      g (.int (lo + i)) (wipe σ vs) H2 fun σ2 H2 => wipe σ2 vs = wipe σ vs ∧ tYes σ2 H2 fun b H3 => if b = true then te σ2 H3 C else E H3)
    (hd : ∀ (H : Hp) (xs : List V), Kp st H0 H → Dw K st sc ns H → H Da = some (.lst xs) → xs.length = n → (∀ x ∈ xs, Pe x) → Q (.ref Da) H) : LcB (Itr lo n) g tYes te vs σ Da H0 Q := by
  have nD := d0.free hD
  refine lc_rng (fun i H2 => Kp st H0 H2 ∧ Dw K st sc ns H2 ∧ ∃ xs : List V, H2 Da = some (.lst xs) ∧ xs.length = i ∧ ∀ x ∈ xs, Pe x) ⟨Kp.new hD, d0.same (same_new hD), [], upd_same, rfl, fun _ hy => by cases hy⟩ (fun i H2 hi p => ?_) (fun H2 p => ?_)
  · obtain ⟨k4, d4, xs, e4, l4, o4⟩ := p
    refine hs i H2 _ _ hi k4 d4 fun y H3 k5 d5 hy => ?_
    refine ⟨xs, k5 _ _ nD e4, Nat.lt_of_le_of_lt (Nat.le_of_lt (by omega : xs.length < 1000001)) (by decide), (k4.trans k5).mut hD, Dw.mut d0 d5 hD (k4.trans k5), xs ++ [y], upd_same, by simp [l4], fun z hz => ?_⟩
    rcases List.mem_append.mp hz with h | h
    · exact o4 z h
    · rw [List.mem_singleton.mp h]; exact hy
  · obtain ⟨k4, d4, xs, e4, l4, o4⟩ := p
    exact hd H2 xs k4 d4 e4 l4 o4
end
theorem ints_of {n : Nat} {P : Int → Prop} : ∀ {xs : List V}, (∀ x ∈ xs, ∃ i, x = .int i ∧ P i) → ∃ ks : List Int, xs = ks.map V.int ∧ ∀ k ∈ ks, P k
  | [], _ => ⟨[], rfl, fun _ h => by cases h⟩
  | x :: xs, h => by
    obtain ⟨i, rfl, hi⟩ := h x (List.mem_cons_self ..)
    obtain ⟨ks, rfl, hk⟩ := ints_of (n := n) (P := P) (xs := xs) fun y hy => h y (List.mem_cons_of_mem _ hy)
    refine ⟨i :: ks, rfl, fun k hk2 => ?_⟩
    rcases List.mem_cons.mp hk2 with rfl | h2
    · exact hi
    · exact hk k h2
def sp_law_draws (K : PySem.W.Frag) : Sp := sp1 fun a H Q => ∃ (sa : Addr) (ns : List Int), a = .ref sa ∧ SqL K H sa (ns.map V.int) ∧ ns.length ≤ 63 ∧ ∀ (st sc : Addr) (H' : Hp), H st = none → Same H H' → Dw K st sc ns H' → Q (.ref st) H'
def sp_law_draw (K : PySem.W.Frag) : Sp := sp2 fun a b H Q => ∃ (st sc : Addr) (ns : List Int) (n : Int), a = .ref st ∧ b = .int n ∧ Dw K st sc ns H ∧ 0 < n ∧ n < 2 ^ 60 ∧
  ∀ (d : Int) (H' : Hp), 0 ≤ d → d < n → Kp st H H' → Dw K st sc ns H' → Q (.int d) H'
def CHL : List Nat := [45,46,47,48,49,50,51,52,53,54,55,56,57,65,66,67,68,69,70,71,72,73,74,75,76,77,78,79,80,81,82,83,84,85,86,87,88,89,90,95,97,98,99,100,101,102,103,104,105,106,107,108,109,110,111,112,113,114,115,116,117,118,119,120,121,122]
def letr (d : Int) : Nat := CHL.getD d.toNat 0
def nmS (ds : List Int) : Str := ⟨(ds.map letr).toArray⟩
def Tail (t : Str) : Prop := t = Str.empty ∨ ∃ r : Str, t = Str.ofString "~" ++ r
theorem idx66 : ∀ k : Fin 66, Txt.index0 (Str.ofString "-./0123456789ABCDEFGHIJKLMNOPQRSTUVWXYZ_abcdefghijklmnopqrstuvwxyz~") ⟨#[CHL.getD k.val 0]⟩ = some k.val := by decide +kernel
theorem at66 : ∀ k : Fin 66, (Str.ofString "-./0123456789ABCDEFGHIJKLMNOPQRSTUVWXYZ_abcdefghijklmnopqrstuvwxyz~").cps.toList[k.val]? = some (CHL.getD k.val 0) := by decide +kernel
theorem no126 : ∀ k : Fin 66, CHL.getD k.val 0 ≠ 126 := by decide +kernel
theorem dig_fin {d : Int} (h : 0 ≤ d ∧ d < 66) : ∃ k : Fin 66, d = (k.val : Int) := ⟨⟨d.toNat, by omega⟩, by show d = (d.toNat : Int); omega⟩
theorem letr_index {d : Int} (h : 0 ≤ d ∧ d < 66) : ∃ k : Nat, d = (k : Int) ∧ Txt.index0 (Str.ofString "-./0123456789ABCDEFGHIJKLMNOPQRSTUVWXYZ_abcdefghijklmnopqrstuvwxyz~") ⟨#[letr d]⟩ = some k := by
  obtain ⟨k, rfl⟩ := dig_fin h
  exact ⟨k.val, rfl, idx66 k⟩
theorem letr_at {d : Int} (h : 0 ≤ d ∧ d < 66) : atI (Str.ofString "-./0123456789ABCDEFGHIJKLMNOPQRSTUVWXYZ_abcdefghijklmnopqrstuvwxyz~").cps.toList d = some (letr d) := by
  obtain ⟨k, rfl⟩ := dig_fin h
  exact atI_nat (at66 k)
theorem letr_ne {d : Int} (h : 0 ≤ d ∧ d < 66) : letr d ≠ 126 := by
  obtain ⟨k, rfl⟩ := dig_fin h
  exact no126 k
theorem nmS_tl (ds : List Int) : (nmS ds).cps.toList = ds.map letr := rfl
theorem nmS_len (ds : List Int) : (nmS ds).length = ds.length := by
  show (ds.map letr).toArray.size = _
  rw [List.size_toArray, List.length_map]
theorem nmS_free {ds : List Int} (h : isD 66 ds) : 126 ∉ (nmS ds).cps.toList := fun hm => by
  rw [nmS_tl] at hm
  obtain ⟨d, hd, e⟩ := List.mem_map.mp hm
  exact letr_ne (h d hd) e
theorem str_assoc (a b c : Str) : a ++ b ++ c = a ++ (b ++ c) := TL.ext_tl (by rw [TL.tl_append, TL.tl_append, TL.tl_append, TL.tl_append, List.append_assoc])
theorem app_empty (a : Str) : a ++ Str.empty = a := TL.ext_tl (by rw [TL.tl_append]; exact List.append_nil _)
theorem part_name {ds : List Int} {t : Str} (h : isD 66 ds) (ht : Tail t) : (Txt.partition (nmS ds ++ t) (Str.ofString "~")).1 = nmS ds := by
  have ey : TL.tl (Str.ofString "~") = [126] := by decide +kernel
  rcases ht with rfl | ⟨r, rfl⟩
  · rw [app_empty, TL.partition_none ey (nmS_free h)]
  · rw [← str_assoc, TL.partition_app ey (nmS_free h)]
theorem split_name {ds : List Int} {t : Str} (h : isD 66 ds) (ht : Tail t) : ∃ r, Txt.split (nmS ds ++ t) (Str.ofString "~") = nmS ds :: r := by
  have ey : TL.tl (Str.ofString "~") = [126] := by decide +kernel
  have e := TL.split_spl (nmS ds ++ t) (Str.ofString "~") (by rw [ey]; simp) (TL.kind_ok (by decide +kernel))
  have key : ∃ r, TL.spl [126] 0 [] (TL.tl (nmS ds ++ t)) = TL.tl (nmS ds) :: r := by
    rcases ht with rfl | ⟨r, rfl⟩
    · rw [app_empty, TL.spl_last1 (nmS_free h)]
      exact ⟨_, rfl⟩
    · rw [← str_assoc, TL.tl_append, TL.tl_append, ey, List.append_assoc, show [126] ++ TL.tl r = (126 :: [] ++ TL.tl r) from rfl, TL.spl_part1 (nmS_free h)]
      exact ⟨_, rfl⟩
  obtain ⟨r, hr⟩ := key
  rw [ey, hr] at e
  cases q : Txt.split (nmS ds ++ t) (Str.ofString "~") with
  | nil => rw [q] at e; cases e
  | cons x xs =>
    rw [q] at e
    have e1 := (List.cons.inj e).1
    exact ⟨xs, by rw [TL.ext_tl e1]⟩
theorem cut_name (a t : Str) : cutS (a ++ t) (some ((a.length : Nat) : Int)) none = t := by
  refine TL.ext_tl ?_
  unfold cutS
  show List.take _ (List.drop (HT.sIx (a ++ t).length 0 (some ((a.length : Nat) : Int))) (TL.tl (a ++ t))) = _
  have hl : (a ++ t).length = a.length + t.length := len_app a t
  rw [HT.sIx_nat, Nat.min_eq_left (by omega), TL.tl_append]
  have e1 : a.length = (TL.tl a).length := TL.len_tl a
  rw [e1, List.drop_left]
  refine List.take_of_length_le ?_
  show _ ≤ HT.sIx (a ++ t).length (a ++ t).length none - _
  have e2 : t.length = (TL.tl t).length := TL.len_tl t
  have e3 : HT.sIx (a ++ t).length (a ++ t).length none = (a ++ t).length := rfl
  rw [e3]
  omega
theorem nm_inj {ds es : List Int} (h1 : isD 66 ds) (h2 : isD 66 es) (h : nmS ds = nmS es) : ds = es := by
  have e : ds.map letr = es.map letr := congrArg (fun z : Str => z.cps.toList) h
  have inj : ∀ (a b : Int), 0 ≤ a ∧ a < 66 → 0 ≤ b ∧ b < 66 → letr a = letr b → a = b := fun a b ha hb q => by
    obtain ⟨k, rfl, e1⟩ := letr_index ha
    obtain ⟨j, rfl, e2⟩ := letr_index hb
    rw [q, e2] at e1
    cases e1
    rfl
  revert es
  induction ds with
  | nil =>
    intro es h2 _ e
    cases es with
    | nil => rfl
    | cons _ _ => cases e
  | cons a ds ih =>
    intro es h2 _ e
    cases es with
    | nil => cases e
    | cons b es =>
      have e1 := List.cons.inj e
      have x1 := inj a b (h1 a (List.mem_cons_self ..)) (h2 b (List.mem_cons_self ..)) e1.1
      have x2 := ih (fun x hx => h1 x (List.mem_cons_of_mem _ hx)) (fun x hx => h2 x (List.mem_cons_of_mem _ hx)) (TL.ext_tl (by show List.map letr ds = List.map letr es; exact e1.2)) e1.2
      rw [x1, x2]
theorem app_tail {a b t : Str} (h : a ++ t = b ++ t) : a = b := by
  have e := congrArg TL.tl h
  rw [TL.tl_append, TL.tl_append] at e
  exact TL.ext_tl (List.append_cancel_right e)
def oneS (d : Int) : Str := ⟨#[letr d]⟩
theorem joinL_nil : ∀ l : List (List Nat), TL.joinL [] l = l.flatten
  | [] => rfl
  | [p] => by simp [TL.joinL]
  | p :: q :: r => by
    show p ++ ([] ++ TL.joinL [] (q :: r)) = _
    rw [joinL_nil (q :: r)]
    rfl
theorem join_one (ds : List Int) : Txt.join (Str.ofString "") (ds.map oneS) = nmS ds := by
  refine TL.ext_tl ?_
  have ey : TL.tl (Str.ofString "") = [] := by decide +kernel
  rw [TL.join_eq, TL.tl_join, ey, joinL_nil, List.map_map]
  show (ds.map fun d => [letr d]).flatten = ds.map letr
  induction ds with
  | nil => rfl
  | cons d ds ih => exact congrArg (letr d :: ·) ih
theorem one_sum : ∀ ds : List Int, ((ds.map oneS).map (·.length)).sum = ds.length
  | [] => rfl
  | d :: ds => by
    have := one_sum ds
    show 1 + ((ds.map oneS).map (·.length)).sum = ds.length + 1
    omega
theorem uns_eq : ((List.range 65).filter fun i => decide (Nat.gcd (1 + i) 66 = 1)).map (fun i => V.int (1 + (i : Nat))) = uns.map V.int := by
  rfl
theorem idx66b : ∀ k : Fin 66, Txt.index0 (Str.ofString "-./0123456789ABCDEFGHIJKLMNOPQRSTUVWXYZ_abcdefghijklmnopqrstuvwxyz") ⟨#[CHL.getD k.val 0]⟩ = some k.val := by decide +kernel
theorem at66b : ∀ k : Fin 66, (Str.ofString "-./0123456789ABCDEFGHIJKLMNOPQRSTUVWXYZ_abcdefghijklmnopqrstuvwxyz").cps.toList[k.val]? = some (CHL.getD k.val 0) := by decide +kernel
theorem letr_index2 {d : Int} (h : 0 ≤ d ∧ d < 66) : ∃ k : Nat, d = (k : Int) ∧ Txt.index0 (Str.ofString "-./0123456789ABCDEFGHIJKLMNOPQRSTUVWXYZ_abcdefghijklmnopqrstuvwxyz") ⟨#[letr d]⟩ = some k := by
  obtain ⟨k, rfl⟩ := dig_fin h
  exact ⟨k.val, rfl, idx66b k⟩
theorem letr_at2 {d : Int} (h : 0 ≤ d ∧ d < 66) : atI (Str.ofString "-./0123456789ABCDEFGHIJKLMNOPQRSTUVWXYZ_abcdefghijklmnopqrstuvwxyz").cps.toList d = some (letr d) := by
  obtain ⟨k, rfl⟩ := dig_fin h
  exact atI_nat (at66b k)
theorem strs_of {P : Int → Prop} : ∀ {xs : List V}, (∀ x ∈ xs, ∃ d, x = .str (oneS d) ∧ P d) → ∃ ds : List Int, xs = (ds.map oneS).map V.str ∧ ∀ d ∈ ds, P d
  | [], _ => ⟨[], rfl, fun _ h => by cases h⟩
  | x :: xs, h => by
    obtain ⟨i, rfl, hi⟩ := h x (List.mem_cons_self ..)
    obtain ⟨ks, rfl, hk⟩ := strs_of (P := P) (xs := xs) fun y hy => h y (List.mem_cons_of_mem _ hy)
    refine ⟨i :: ks, rfl, fun k hk2 => ?_⟩
    rcases List.mem_cons.mp hk2 with rfl | h2
    · exact hi
    · exact hk k h2
theorem nm_cons (e : Int) (l : List Int) : (⟨#[letr e]⟩ : Str) ++ nmS l = nmS (e :: l) := TL.ext_tl (by rw [TL.tl_append]; rfl)
theorem dnum_mod {b : Int} (es : List Int) {d : Int} (hb : 0 < b) (hd : 0 ≤ d ∧ d < b) : dnum b (es ++ [d]) % b = d ∧ dnum b (es ++ [d]) / b = dnum b es := by
  rw [dnum_snoc]
  constructor
  · rw [Int.add_comm, Int.add_mul_emod_self_right, Int.emod_eq_of_lt hd.1 hd.2]
  · rw [Int.add_comm, Int.add_mul_ediv_right _ _ (by omega), Int.ediv_eq_zero_of_lt hd.1 hd.2, Int.zero_add]
theorem num_len {i : Int} (h0 : 0 ≤ i) (h1 : i < 100000) : (Str.ofString (toString i)).length ≤ 5 := by
  have e : i = ((i.toNat : Nat) : Int) := by omega
  rw [e, TL.len_tl, TL.tl_num]
  exact TL.numL_len (by decide) (by omega)
theorem cut_at {es : List Int} {n m : Nat} (hn : es.length = n) (h : m < n) : ∃ e, e ∈ es ∧ es.take (n - m) = es.take (n - (m + 1)) ++ [e] ∧ es.drop (n - (m + 1)) = e :: es.drop (n - m) := by
  obtain ⟨i, hi⟩ : ∃ i, n - (m + 1) = i := ⟨_, rfl⟩
  have h2 : n - m = i + 1 := by omega
  have hl : i < es.length := by omega
  rw [hi, h2]
  refine ⟨es[i], List.getElem_mem hl, ?_, List.drop_eq_getElem_cons hl⟩
  rw [List.take_add_one, List.getElem?_eq_getElem hl]
  rfl
theorem abz5 : ∀ k : Fin 5, (Str.ofString "abz_-").cps.toList[k.val]? = some (CHL.getD (([40, 41, 65, 39, 0] : List Nat).getD k.val 0) 0) ∧ ([40, 41, 65, 39, 0] : List Nat).getD k.val 0 < 66 := by decide +kernel
theorem abz_at {d : Int} (h : 0 ≤ d ∧ d < 5) : ∃ f : Int, (0 ≤ f ∧ f < 66) ∧ atI (Str.ofString "abz_-").cps.toList d = some (letr f) := by
  obtain ⟨k, rfl⟩ : ∃ k : Fin 5, d = (k.val : Int) := ⟨⟨d.toNat, by omega⟩, by show d = (d.toNat : Int); omega⟩
  have := abz5 k
  exact ⟨((([40, 41, 65, 39, 0] : List Nat).getD k.val 0 : Nat) : Int), by omega, atI_nat this.1⟩
theorem e_tWhile {tc : TT} {tb : TS} {D : Ends} {σ : L2.St} {H : Hp} (q : ∃ W : Nat → L2.St → Hp → Prop, (∃ m, W m σ H) ∧ ∀ m σ H, W m σ H → tc σ H fun b H1 => if b = true then ∃ N : L2.St → Hp → Prop, (∀ σ' H', N σ' H' → ∃ m', m' < m ∧ W m' σ' H') ∧ tb { D with nx := N, ct := N, bk := D.nx } σ H1 else D.nx σ H1) : tWhile tc tb D σ H := q
theorem e_revR3 {tr : L2.St → Hp → (Int → Int → Int → Nat → Hp → Prop) → Prop} {σ : L2.St} {H : Hp} {R : It → Hp → Prop} (q : tr σ H fun a _ c n H1 => R (Itc (a + ((n : Int) - 1) * c) (-c) n) H1) : iRevR3 tr σ H R := q
theorem e_tRg3 {ta : TA} {σ : L2.St} {H : Hp} {Q : Int → Int → Int → Nat → Hp → Prop} (q : ta σ H fun vs H1 => ∃ i j k n, vs = [.int i, .int j, .int k] ∧ RgC i j k n ∧ Builtin.Range.handS_smallRev i j k = true ∧ Q i j k n H1) : tRg3 ta σ H Q := q
theorem e_par {i j : Nat} {ta : TA} {D : Ends} {σ : L2.St} {H : Hp} (q : ta σ H fun vs H1 => ∃ v w, vs = [v, w] ∧ D.nx ((σ.set i (some v)).set j (some w)) H1) : tPar i j ta D σ H := q
theorem e_tRevL {K : PySem.W.Frag} {t : TE} {σ : L2.St} {H : Hp} {Q : VK} (q : t σ H fun x H1 => ∃ p xs, x = .ref p ∧ SqL K H1 p xs ∧ ∀ l, H1 l = none → Q (.ref l) (upd H1 l (.lst xs.reverse))) : tRevL K t σ H Q := q
theorem lc_mapT {K : PySem.W.Frag} {g : TG} {te : TE} {vs : List Nat} {σ : L2.St} {Da a : Addr} {H0 : Hp} {Q : VK} {xs : List V} (hS : SqT K H0 a xs) (hD : H0 Da = none) (hn : xs.length ≤ 1000000) (f : V → V)
    (hs : ∀ (x : V) (H2 : Hp) (C : VK) (E : Hp → Prop), x ∈ xs → Same H0 H2 → (∀ H3, Same H2 H3 → C (f x) H3) →
      g x (wipe σ vs) H2 fun σ2 H2 => wipe σ2 vs = wipe σ vs ∧ tYes σ2 H2 fun b H3 => if b = true then te σ2 H3 C else E H3)
    (hd : ∀ (H : Hp), Same H0 H → H Da = some (.lst (xs.map f)) → Q (.ref Da) H) : LcB (Itt K a) g tYes te vs σ Da H0 Q := by
  refine lc_tup (K := K) (xs := xs) (fun i H2 => Same H0 H2 ∧ H2 Da = some (.lst ((xs.take i).map f))) ⟨same_new hD, upd_same⟩ (fun i H2 _ q => same_tup q.1 hS) (fun i x H2 hx q => ?_) (fun H2 q => ?_)
  · obtain ⟨s4, e4⟩ := q
    refine hs x H2 _ _ (List.mem_of_getElem? hx) s4 fun H3 s5 => ?_
    refine ⟨_, s5 _ _ e4, Nat.lt_of_le_of_lt (by rw [List.length_map, List.length_take]; omega : _ ≤ 1000000) (by decide), Same.mut (s4.trans s5) hD, ?_⟩
    rw [upd_same, List.take_add_one, hx, List.map_append]
    rfl
  · refine hd H2 q.1 ?_
    rw [q.2, List.take_length]
theorem mix_piece {ks c : List Int} (h : Piece c) : Piece (mix 256 ks c) := by
  have m1 := mix_isD (.inr rfl : Base 256) ks h.b
  have m2 := mix_len (.inr rfl : Base 256) ks h.b
  exact ⟨m1, by rw [m2]; exact h.h1, by rw [m2]; exact h.h4⟩
theorem flat_bnum : ∀ {cs : List (List Int)}, (∀ c ∈ cs, Piece c) → (cs.map bnum).flatMap bbytes = cs.flatten
  | [], _ => rfl
  | c :: cs, h => by
    show bbytes (bnum c) ++ (cs.map bnum).flatMap bbytes = c ++ cs.flatten
    rw [bbytes_bnum (h c (List.mem_cons_self ..)), flat_bnum fun d hd => h d (List.mem_cons_of_mem _ hd)]
theorem flat_map_map (f : List Int → List Int) (cs : List (List Int)) : (cs.map f).flatten = cs.flatMap f := rfl
theorem one_of {e : List Int} (h : e.length = 1) : ∃ a, e = [a] := by
  match e, h with
  | [a], _ => exact ⟨a, rfl⟩
theorem two_of {e : List Int} (h : e.length = 2) : ∃ a b, e = [a, b] := by
  match e, h with
  | [a, b], _ => exact ⟨a, b, rfl⟩
theorem three_of {e : List Int} (h : e.length = 3) : ∃ a b c, e = [a, b, c] := by
  match e, h with
  | [a, b, c], _ => exact ⟨a, b, c, rfl⟩
theorem four_of {e : List Int} (h : e.length = 4) : ∃ a b c d, e = [a, b, c, d] := by
  match e, h with
  | [a, b, c, d], _ => exact ⟨a, b, c, d, rfl⟩
theorem chunks_shape : ∀ (xs : List Int) (es : List (List Int)), es.map List.length = (chunks xs).map List.length → chunks es.flatten = es
  | [], es, h => by
    cases es with
    | nil => rfl
    | cons _ _ => cases h
  | [a], es, h => by
    match es, h with
    | [], h => cases h
    | _ :: _ :: _, h => simp [chunks] at h
    | [e], h =>
      obtain ⟨x, rfl⟩ := one_of (List.cons.inj h).1
      rfl
  | [a, b], es, h => by
    match es, h with
    | [], h => cases h
    | _ :: _ :: _, h => simp [chunks] at h
    | [e], h =>
      obtain ⟨x, y, rfl⟩ := two_of (List.cons.inj h).1
      rfl
  | [a, b, c], es, h => by
    match es, h with
    | [], h => cases h
    | _ :: _ :: _, h => simp [chunks] at h
    | [e], h =>
      obtain ⟨x, y, z, rfl⟩ := three_of (List.cons.inj h).1
      rfl
  | a :: b :: c :: d :: r, es, h => by
    cases es with
    | nil => cases h
    | cons e es =>
      have h2 := List.cons.inj h
      obtain ⟨x, y, z, w, rfl⟩ := four_of h2.1
      have ih := chunks_shape r es h2.2
      show [x, y, z, w] :: chunks es.flatten = _
      rw [ih]
theorem flat_len2 : ∀ {es cs : List (List Int)}, es.map List.length = cs.map List.length → es.flatten.length = cs.flatten.length
  | [], [], _ => rfl
  | [], _ :: _, h => by cases h
  | _ :: _, [], h => by cases h
  | e :: es, c :: cs, h => by
    have h2 := List.cons.inj h
    rw [List.flatten_cons, List.flatten_cons, List.length_append, List.length_append, h2.1, flat_len2 h2.2]
/-- bytes, piece by piece -/
def mixC (ks xs : List Int) : List Int := (chunks xs).flatMap (mix 256 ks)
theorem lg1 {i : Int} (h0 : 0 ≤ i) (h1 : i < 100000) : i.natAbs.log2 < 1920 := Nat.lt_trans (PySem.Flt.log2_lt_of (k := 20) (by decide) (by omega)) (by decide)
def NmV (v : V) : Prop := ∃ (ds : List Int) (t : Str), v = .str (nmS ds ++ t) ∧ isD 66 ds ∧ 1 ≤ ds.length ∧ ds.length ≤ 27 ∧ Tail t ∧ t.length ≤ 100
theorem mixC_shape (ks xs : List Int) (hb : isB xs) : chunks (mixC ks xs) = (chunks xs).map (mix 256 ks) := by
  refine chunks_shape xs _ ?_
  rw [List.map_map]
  refine List.map_congr_left fun c hc => ?_
  exact mix_len (.inr rfl : Base 256) ks (chunks_piece xs hb c hc).b
theorem map_mix_inj {ks : List Int} (hk : IsKey ks) : ∀ {cs es : List (List Int)}, (∀ c ∈ cs, Piece c) → (∀ c ∈ es, Piece c) → cs.map (mix 256 ks) = es.map (mix 256 ks) → cs = es
  | [], [], _, _, _ => rfl
  | [], _ :: _, _, _, h => by cases h
  | _ :: _, [], _, _, h => by cases h
  | c :: cs, e :: es, h1, h2, h => by
    have h3 := List.cons.inj h
    have pc := h1 c (List.mem_cons_self ..)
    have pe := h2 e (List.mem_cons_self ..)
    have hl : c.length = e.length := by
      have := congrArg List.length h3.1
      rw [mix_len (.inr rfl : Base 256) ks pc.b, mix_len (.inr rfl : Base 256) ks pe.b] at this
      exact this
    rw [mix_inj (.inr rfl : Base 256) hk pc.b pe.b hl h3.1, map_mix_inj hk (fun x hx => h1 x (List.mem_cons_of_mem _ hx)) (fun x hx => h2 x (List.mem_cons_of_mem _ hx)) h3.2]
theorem mixC_inj {ks xs ys : List Int} (hk : IsKey ks) (hx : isB xs) (hy : isB ys) (h : mixC ks xs = mixC ks ys) : xs = ys := by
  have e := congrArg chunks h
  rw [mixC_shape ks xs hx, mixC_shape ks ys hy] at e
  have e2 := map_mix_inj hk (chunks_piece xs hx) (chunks_piece ys hy) e
  rw [← chunks_flat xs, ← chunks_flat ys, e2]
theorem mixC_len {ks xs : List Int} (hb : isB xs) : (mixC ks xs).length = xs.length := by
  have e : ((chunks xs).map (mix 256 ks)).map List.length = (chunks xs).map List.length := by
    rw [List.map_map]
    refine List.map_congr_left fun c hc => ?_
    exact mix_len (.inr rfl : Base 256) ks (chunks_piece xs hb c hc).b
  have := flat_len2 e
  rw [chunks_flat] at this
  exact this
theorem mixC_isB {ks xs : List Int} (hb : isB xs) : isB (mixC ks xs) := fun b h => by
  obtain ⟨c, hc, hbc⟩ := List.mem_flatMap.mp h
  exact mix_isD (.inr rfl : Base 256) ks (chunks_piece xs hb c hc).b b hbc
theorem mix_flat_len {ks : List Int} : ∀ {cs : List (List Int)}, (∀ c ∈ cs, Piece c) → (cs.flatMap (mix 256 ks)).length ≤ 4 * cs.length
  | [], _ => Nat.zero_le _
  | c :: cs, h => by
    have pc := h c (List.mem_cons_self ..)
    have := mix_flat_len (ks := ks) fun d hd => h d (List.mem_cons_of_mem _ hd)
    have l := mix_len (.inr rfl : Base 256) ks pc.b
    have l4 := pc.h4
    rw [List.flatMap_cons, List.length_append, List.length_cons]
    omega
def okInt (v : V) : Bool := match v with
  | .int i => decide (0 ≤ i) && decide (i ≤ 4294967295)
  | _ => false
def simpleV (v : V) : Prop := (∃ i, v = .int i) ∨ (∃ b, v = .bl b) ∨ (∃ z, v = .str z)
theorem e_sl7 {K : PySem.W.Frag} {H : Hp} {Q : VK} {q : Addr} {ks : List Int} (hk : ks.length = 8) (h : H q = some (.tup (ks.map V.int))) (k : ∀ p, H p = none → Q (.ref p) (upd H p (.tup ((ks.take 7).map V.int)))) : rSlA K (.ref q) none (some 7) H Q := by
  have e7 : HT.sIx (ks.map V.int).length (ks.map V.int).length (some ((7 : Nat) : Int)) = 7 := by
    rw [HT.sIx_nat, List.length_map, hk]
    decide
  refine ⟨q, _, rfl, SqT.of h, fun z => ?_, fun _ p hp => ?_⟩
  · have z2 := z.2
    rw [List.length_map, hk] at z2
    exact absurd z2 (by decide)
  · have e : cutV (ks.map V.int) none (some 7) = (ks.take 7).map V.int := by
      match ks, hk with
      | [_, _, _, _, _, _, _, _], _ => rfl
    rw [e]
    exact k p hp
theorem e_cat1 {K : PySem.W.Frag} {H : Hp} {Q : VK} {a b : Addr} {xs : List V} {y : V} (ha : H a = some (.tup xs)) (hb : H b = some (.tup [y])) (hx : xs ≠ []) (hl : xs.length ≤ 100) (k : ∀ p, H p = none → Q (.ref p) (upd H p (.tup (xs ++ [y])))) : rCatA K (.ref a) (.ref b) H Q :=
  ⟨a, b, xs, [y], rfl, rfl, SqT.of ha, SqT.of hb, sz_of (by rw [List.length_singleton]; omega), fun e => absurd e hx, fun _ e => (by cases e), fun _ _ => k⟩
def OddV (H : Hp) (v : V) : Prop := (v = .non ∨ (∃ i, v = .int i) ∨ ∃ p xs, v = .ref p ∧ H p = some (.lst xs)) ∨
  ∃ (p : Addr) (xs : List V), v = .ref p ∧ H p = some (.tup xs) ∧ xs.length ≤ 1000 ∧ (∀ x ∈ xs, simpleV x) ∧ (decide (xs.length = 8) && xs.all okInt) = false
theorem OddV.same {H H' : Hp} {v : V} (h : OddV H v) (e : Same H H') : OddV H' v := by
  rcases h with (h | h | ⟨p, xs, h1, h2⟩) | ⟨p, xs, h1, h2, h3⟩
  · exact .inl (.inl h)
  · exact .inl (.inr (.inl h))
  · exact .inl (.inr (.inr ⟨p, xs, h1, e _ _ h2⟩))
  · exact .inr ⟨p, xs, h1, e _ _ h2, h3⟩
theorem simple_ints (ks : List Int) : ∀ x ∈ ks.map V.int, simpleV x := fun x h => by
  obtain ⟨i, _, rfl⟩ := List.mem_map.mp h
  exact .inl ⟨i, rfl⟩
theorem simple_snoc {ks : List Int} {y : V} (hy : simpleV y) : ∀ x ∈ ks.map V.int ++ [y], simpleV x := fun x h => by
  rcases List.mem_append.mp h with h | h
  · exact simple_ints ks x h
  · rw [List.mem_singleton.mp h]; exact hy
theorem bad_snoc {xs : List V} {y : V} (h : okInt y = false) : (decide ((xs ++ [y]).length = 8) && (xs ++ [y]).all okInt) = false := by
  rw [List.all_append, show [y].all okInt = false by show (okInt y && true) = false; rw [h]; rfl, Bool.and_false, Bool.and_false]
theorem bad_len {xs : List V} (h : xs.length ≠ 8) : (decide (xs.length = 8) && xs.all okInt) = false := by
  rw [decide_eq_false h, Bool.false_and]
theorem ok_all {ks : List Int} (h : IsKey ks) : (decide ((ks.map V.int).length = 8) && (ks.map V.int).all okInt) = true := by
  rw [List.length_map, h.1, decide_eq_true rfl, Bool.true_and, List.all_map, List.all_eq_true]
  intro i hi
  have := h.2 i hi
  show (decide (0 ≤ i) && decide (i ≤ 4294967295)) = true
  rw [decide_eq_true this.1, decide_eq_true this.2]
  rfl
def NewI (K : PySem.W.Frag) (H : Hp) (xs : List Int) (Q : VK) : Prop := ∀ (p : Addr) (H' : Hp), H p = none → Same H H' → H' p = some (.lst (xs.map V.int)) → Q (.ref p) H'
def sp_joined (K : PySem.W.Frag) : Sp := sp1 fun a H Q => ∃ (p : Addr) (ns : List Int), a = .ref p ∧ SqE K H p (ns.map V.int) ∧ ns.length ≤ 20000 ∧ (∀ n ∈ ns, 0 < bsize n) ∧ ∀ (q : Addr) (H' : Hp), H q = none → Same H H' → H' q = some (.lst ((ns.flatMap bbytes).map V.int)) → Q (.ref q) H'
def sp_root_of (K : PySem.W.Frag) : Sp := sp1 fun a H Q => ∃ (ds : List Int) (t : Str), a = .str (nmS ds ++ t) ∧ isD 66 ds ∧ Tail t ∧ ds.length + t.length ≤ 1000 ∧ ∀ H', Same H H' → Q (.str (nmS ds)) H'
def sp_digits_of (K : PySem.W.Frag) : Sp := sp1 fun a H Q => ∃ (ds : List Int), a = .str (nmS ds) ∧ isD 66 ds ∧ ds.length ≤ 1000 ∧ NewI K H ds Q
def sp_name_of (K : PySem.W.Frag) : Sp := sp1 fun a H Q => ∃ (p : Addr) (ds : List Int), a = .ref p ∧ SqL K H p (ds.map V.int) ∧ isD 66 ds ∧ ds.length ≤ 1000 ∧ ∀ H', Same H H' → Q (.str (nmS ds)) H'
def sp_number (K : PySem.W.Frag) : Sp := sp2 fun a b H Q => ∃ (p : Addr) (ds : List Int) (n : Int), a = .ref p ∧ b = .int n ∧ Base n ∧ SqL K H p (ds.map V.int) ∧ Q (.int (dnum n ds)) H
def sp_turned_digits (K : PySem.W.Frag) : Sp := sp3 fun a b c H Q => ∃ (x n : Int) (m : Nat), a = .int x ∧ b = .int n ∧ c = .int m ∧ Base n ∧ m ≤ 1000 ∧ NewI K H (low n m x) Q
def sp_power (K : PySem.W.Frag) : Sp := sp2 fun a b H Q => ∃ (n : Int) (m : Nat), a = .int n ∧ b = .int m ∧ Base n ∧ m ≤ 1000 ∧ Q (.int (n ^ m)) H
def sp_inverse (K : PySem.W.Frag) : Sp := sp2 fun a b H Q => ∃ (n w : Int), a = .int n ∧ b = .int w ∧ 0 < n ∧ 1 < w ∧ w < 2 ^ 200 ∧ Nat.gcd w.toNat n.toNat = 1 ∧ ∀ (g : Int) (H' : Hp), (∃ q, n * g = 1 + w * q) → (g.natAbs : Int) ≤ w → Same H H' → Q (.int g) H'
def sp_factor (K : PySem.W.Frag) : Sp := sp2 fun a b H Q => ∃ (x n : Int), a = .int x ∧ b = .int n ∧ Base n ∧ 0 ≤ x ∧ x < 4294967296 ∧ ∀ H', Same H H' → Q (.int (fac n x)) H'
def sp_law_factor (K : PySem.W.Frag) : Sp := sp2 fun b a H Q => ∃ (x n : Int), a = .int x ∧ b = .int n ∧ Base n ∧ 0 ≤ x ∧ x < 4294967296 ∧ ∀ H', Same H H' → Q (.int (fac n x)) H'
def sp_mixed (K : PySem.W.Frag) : Sp := sp3 fun a b c H Q => ∃ (p q : Addr) (n : Int) (ds ks : List Int), a = .ref p ∧ b = .int n ∧ c = .ref q ∧ SqL K H p (ds.map V.int) ∧ SqT K H q (ks.map V.int) ∧ Base n ∧ IsKey ks ∧ isD n ds ∧ ds.length ≤ 1000 ∧ NewI K H (mix n ks ds) Q
def sp_unmixed (K : PySem.W.Frag) : Sp := sp3 fun a b c H Q => ∃ (p q : Addr) (n : Int) (ds ks : List Int), a = .ref p ∧ b = .int n ∧ c = .ref q ∧ SqL K H p (ds.map V.int) ∧ SqT K H q (ks.map V.int) ∧ Base n ∧ IsKey ks ∧ isD n ds ∧ ((n = 66 ∧ ds.length ≤ 27) ∨ ds.length ≤ 4) ∧ 1 ≤ ds.length ∧
  ∀ es : List Int, isD n es → es.length = ds.length → mix n ks es = ds → NewI K H es Q
def sp_is_key (K : PySem.W.Frag) : Sp := sp1 fun a H Q => ((a = .non ∨ (∃ i, a = .int i) ∨ ∃ p xs, a = .ref p ∧ H p = some (.lst xs)) ∧ Q (.bl false) H) ∨
  ∃ (p : Addr) (xs : List V), a = .ref p ∧ H p = some (.tup xs) ∧ xs.length ≤ 1000 ∧ (∀ x ∈ xs, simpleV x) ∧ ∀ H', Same H H' → Q (.bl (decide (xs.length = 8) && xs.all okInt)) H'
def sp_seal_name (K : PySem.W.Frag) : Sp := sp2 fun a b H Q => ∃ (ds ks : List Int) (t : Str) (q : Addr), a = .str (nmS ds ++ t) ∧ b = .ref q ∧ SqT K H q (ks.map V.int) ∧ IsKey ks ∧ isD 66 ds ∧ Tail t ∧ ds.length + t.length ≤ 1000 ∧ ∀ H', Same H H' → Q (.str (nmS (mix 66 ks ds) ++ t)) H'
def sp_law_sealed_name (K : PySem.W.Frag) : Sp := sp2 fun a b H Q => ∃ (ds ks : List Int) (t : Str) (q : Addr), a = .str (nmS ds ++ t) ∧ b = .ref q ∧ SqT K H q (ks.map V.int) ∧ IsKey ks ∧ isD 66 ds ∧ Tail t ∧ ds.length ≤ 27 ∧ t.length ≤ 900 ∧ ∀ H', Same H H' → Q (.str (nmS (mix 66 ks ds) ++ t)) H'
def sp_open_name (K : PySem.W.Frag) : Sp := sp2 fun a b H Q => ∃ (ds ks : List Int) (t : Str) (q : Addr), a = .str (nmS ds ++ t) ∧ b = .ref q ∧ SqT K H q (ks.map V.int) ∧ IsKey ks ∧ isD 66 ds ∧ Tail t ∧ 1 ≤ ds.length ∧ ds.length ≤ 27 ∧ t.length ≤ 900 ∧ ∀ (es : List Int) H', isD 66 es → es.length = ds.length → mix 66 ks es = ds → Same H H' → Q (.str (nmS es ++ t)) H'
def sp_seal_blocks (K : PySem.W.Frag) : Sp := sp2 fun a b H Q => ∃ (p q : Addr) (cs : List (List Int)) (ks : List Int), a = .ref p ∧ b = .ref q ∧ SqT K H p ((cs.map bnum).map V.int) ∧ (∀ c ∈ cs, Piece c) ∧ cs.length ≤ 1000 ∧ SqT K H q (ks.map V.int) ∧ IsKey ks ∧ ∀ (r : Addr) (H' : Hp), H r = none → Same H H' → H' r = some (.tup (((cs.map (mix 256 ks)).map bnum).map V.int)) → Q (.ref r) H'
def sp_open_blocks (K : PySem.W.Frag) : Sp := sp2 fun a b H Q => ∃ (p q : Addr) (cs : List (List Int)) (ks : List Int), a = .ref p ∧ b = .ref q ∧ SqT K H p ((cs.map bnum).map V.int) ∧ (∀ c ∈ cs, Piece c) ∧ cs.length ≤ 1000 ∧ SqT K H q (ks.map V.int) ∧ IsKey ks ∧ ∀ (r : Addr) (H' : Hp) (es : List (List Int)), (∀ c ∈ es, Piece c) → es.map (mix 256 ks) = cs → H r = none → Same H H' → H' r = some (.tup ((es.map bnum).map V.int)) → Q (.ref r) H'
def sp_seal_content (K : PySem.W.Frag) : Sp := sp2 fun a b H Q => ∃ (p q : Addr) (xs ks : List Int), a = .ref p ∧ b = .ref q ∧ SqL K H p (xs.map V.int) ∧ isB xs ∧ xs.length ≤ 1000 ∧ SqT K H q (ks.map V.int) ∧ IsKey ks ∧ NewI K H (mixC ks xs) Q
def sp_law_sealed_content (K : PySem.W.Frag) : Sp := sp_seal_content K
def sp_open_content (K : PySem.W.Frag) : Sp := sp2 fun a b H Q => ∃ (p q : Addr) (xs ks : List Int), a = .ref p ∧ b = .ref q ∧ SqL K H p (xs.map V.int) ∧ isB xs ∧ xs.length ≤ 1000 ∧ SqT K H q (ks.map V.int) ∧ IsKey ks ∧ ∀ es : List Int, isB es → es.length = xs.length → mixC ks es = xs → NewI K H es Q
def sp_law_key (K : PySem.W.Frag) : Sp := sp1 fun a H Q => ∃ (st sc : Addr) (ns : List Int), a = .ref st ∧ Dw K st sc ns H ∧ ∀ (q : Addr) (ks : List Int) (H' : Hp), H q = none → Kp st H H' → Dw K st sc ns H' → H' q = some (.tup (ks.map V.int)) → IsKey ks → Q (.ref q) H'
def sp_law_mixed (K : PySem.W.Frag) : Sp := sp4 fun a b c d H Q => ∃ (n : Int) (ds ks : List Int) (q : Addr), a = .int (dnum n ds) ∧ b = .int n ∧ c = .int (ds.length : Nat) ∧ d = .ref q ∧ Base n ∧ isD n ds ∧ ds.length ≤ 1000 ∧ ((n = 66 ∧ ds.length ≤ 27) ∨ ds.length ≤ 4) ∧ SqT K H q (ks.map V.int) ∧ IsKey ks ∧ ∀ H', Same H H' → Q (.int (dnum n (mix n ks ds))) H'
def sp_law_user_name (K : PySem.W.Frag) : Sp := sp1 fun a H Q => ∃ (st sc : Addr) (ns : List Int), a = .ref st ∧ Dw K st sc ns H ∧ ∀ (ds : List Int) (H' : Hp), isD 66 ds → 1 ≤ ds.length → ds.length ≤ 27 → Kp st H H' → Dw K st sc ns H' → Q (.str (nmS ds)) H'
def sp_law_any_name (K : PySem.W.Frag) : Sp := sp1 fun a H Q => ∃ (st sc : Addr) (ns : List Int), a = .ref st ∧ Dw K st sc ns H ∧ ∀ (ds : List Int) (t : Str) (H' : Hp), isD 66 ds → 1 ≤ ds.length → ds.length ≤ 27 → Tail t → t.length ≤ 100 → Kp st H H' → Dw K st sc ns H' → Q (.str (nmS ds ++ t)) H'
def sp_law_bytes (K : PySem.W.Frag) : Sp := sp1 fun a H Q => ∃ (st sc : Addr) (ns : List Int), a = .ref st ∧ Dw K st sc ns H ∧ ∀ (p : Addr) (xs : List Int) (H' : Hp), isB xs → xs.length ≤ 13 → H p = none → Kp st H H' → Dw K st sc ns H' → H' p = some (.lst (xs.map V.int)) → Q (.ref p) H'
structure Ed where
  ds : List Int
  t : Str
  f : Nat → Int
  ht : Int
  mr : Int × Int
  dl : Bool
  tm : Int
  cs : List (List Int)
def Ed.en (x : Ed) : En := ⟨nmS x.ds ++ x.t, x.f, x.ht, x.mr, x.dl, x.tm, x.cs.map bnum⟩
def Ed.sl (ks : List Int) (x : Ed) : Ed := { x with ds := mix 66 ks x.ds, cs := x.cs.map (mix 256 ks) }
structure Ed.Ok (x : Ed) : Prop where
  d : isD 66 x.ds
  l1 : 1 ≤ x.ds.length
  l2 : x.ds.length ≤ 27
  t : Tail x.t
  lt : x.t.length ≤ 100
  p : ∀ c ∈ x.cs, Piece c
  lc : x.cs.length ≤ 20
  nn : ∀ k, 0 ≤ x.f k
  m0 : 0 ≤ x.mr.1 ∧ 0 ≤ x.mr.2
  m1 : x.mr.1 < 100000 ∧ x.mr.2 < 100000
theorem b66 : Base 66 := .inl rfl
theorem b256 : Base 256 := .inr rfl
theorem Ed.Ok.sl {x : Ed} (h : x.Ok) (ks : List Int) : (x.sl ks).Ok := by
  have e := mix_len b66 ks h.d
  exact ⟨mix_isD b66 ks h.d, by show 1 ≤ (mix 66 ks x.ds).length; rw [e]; exact h.l1, by show (mix 66 ks x.ds).length ≤ 27; rw [e]; exact h.l2, h.t, h.lt, fun c hc => by
    obtain ⟨d, hd, rfl⟩ := List.mem_map.mp hc
    exact mix_piece (h.p d hd), by show (x.cs.map _).length ≤ 20; rw [List.length_map]; exact h.lc, h.nn, h.m0, h.m1⟩
theorem mix66_inj {ks : List Int} (hk : IsKey ks) {ds es : List Int} (h1 : isD 66 ds) (h2 : isD 66 es) (hl : es.length = (mix 66 ks ds).length) (h : mix 66 ks es = mix 66 ks ds) : es = ds :=
  mix_inj b66 hk h2 h1 (by rw [hl, mix_len b66 ks h1]) h
/-- what comes in, what goes out: sealing, or opening -/
def inD (b : Bool) (ks ds : List Int) : List Int := if b = true then ds else mix 66 ks ds
def ouD (b : Bool) (ks ds : List Int) : List Int := if b = true then mix 66 ks ds else ds
def inC (b : Bool) (ks c : List Int) : List Int := if b = true then c else mix 256 ks c
def ouC (b : Bool) (ks c : List Int) : List Int := if b = true then mix 256 ks c else c
def inE (b : Bool) (ks : List Int) (x : Ed) : Ed := if b = true then x else x.sl ks
def ouE (b : Bool) (ks : List Int) (x : Ed) : Ed := if b = true then x.sl ks else x
/-! letters -/
inductive Let where
  | hello (n : Int)
  | ask (n : Int)
  | entries (b u : Int) (xs : List (Ed × Int))
  | request (ds : List Int) (t : Str) (i : Int) (c : List Int)
  | block (c : List Int)
  | refused (c : List Int)
def Let.sl (ks : List Int) : Let → Let
  | .hello n => .hello n
  | .ask n => .ask n
  | .entries b u xs => .entries b u (xs.map fun r => (r.1.sl ks, r.2))
  | .request ds t i c => .request (mix 66 ks ds) t i (mix 256 ks c)
  | .block c => .block (mix 256 ks c)
  | .refused c => .refused (mix 256 ks c)
def Let.Ok : Let → Prop
  | .hello _ => True
  | .ask _ => True
  | .entries _ _ xs => xs.length ≤ 60 ∧ ∀ r ∈ xs, r.1.Ok
  | .request ds t _ c => isD 66 ds ∧ 1 ≤ ds.length ∧ ds.length ≤ 27 ∧ Tail t ∧ t.length ≤ 100 ∧ Piece c
  | .block c => Piece c
  | .refused c => Piece c
def PrE (K : PySem.W.Frag) (H : Hp) (q : Addr) (r : Ed × Int) : Prop := ∃ a p, SqT K H q [.ref a, .int r.2] ∧ Ent K H p a r.1.en
theorem PrE.same {K : PySem.W.Frag} {H H' : Hp} {q : Addr} {r : Ed × Int} (h : PrE K H q r) (s : Same H H') : PrE K H' q r := let ⟨a, p, h1, h2⟩ := h; ⟨a, p, same_tup s h1, h2.same s⟩
def LtH (K : PySem.W.Frag) (H : Hp) (a : Addr) : Let → Prop
  | .hello n => SqT K H a [.str "hello", .int n]
  | .ask n => SqT K H a [.str "ask", .int n]
  | .entries b u xs => ∃ (p : Addr) (ps : List Addr), SqT K H a [.str "entries", .int b, .int u, .ref p] ∧ SqT K H p (ps.map V.ref) ∧ Paired (fun q r => PrE K H q r) ps xs
  | .request ds t i c => SqT K H a [.str "request", .str (nmS ds ++ t), .int i, .int (bnum c)]
  | .block c => ∃ d, SqT K H a [.str "block", .int (bnum c), .ref d] ∧ SqT K H d (c.map V.int)
  | .refused c => SqT K H a [.str "refused", .int (bnum c)]
theorem LtH.same {K : PySem.W.Frag} {H H' : Hp} {a : Addr} : ∀ {L : Let}, LtH K H a L → Same H H' → LtH K H' a L
  | .hello _, h, s => same_tup (xs := _) s h
  | .ask _, h, s => same_tup (xs := _) s h
  | .entries _ _ _, h, s => let ⟨p, ps, h1, h2, h3⟩ := h; ⟨p, ps, same_tup s h1, same_tup s h2, paired_imp (fun _ _ q => q.same s) h3⟩
  | .request _ _ _ _, h, s => same_tup (xs := _) s h
  | .block _, h, s => let ⟨d, h1, h2⟩ := h; ⟨d, same_tup s h1, same_tup s h2⟩
  | .refused _, h, s => same_tup (xs := _) s h
def inL (b : Bool) (ks : List Int) (L : Let) : Let := if b = true then L else L.sl ks
def ouL (b : Bool) (ks : List Int) (L : Let) : Let := if b = true then L.sl ks else L
/-! comparing letters -/
def RE (K : PySem.W.Frag) : Addr → Addr → Hp → Prop := fun a b H => ∃ p q e, Ent K H p a e ∧ Ent K H q b e
theorem mon_RE {K : PySem.W.Frag} : ∀ a b H H', L2.Ext H H' → RE K a b H → RE K a b H' := fun a b H H' s h => let ⟨p, q, e, h1, h2⟩ := h; ⟨p, q, e, h1.same s, h2.same s⟩
def DA (K : PySem.W.Frag) : L2.Eqv := fun x y H => L2.DFlat x y H ∨ L2.DIns (cEnt K) (RE K) x y H
def DB (K : PySem.W.Frag) : L2.Eqv := fun x y H => DA K x y H ∨ L2.DTup K (DA K) x y H
def DC (K : PySem.W.Frag) : L2.Eqv := fun x y H => DB K x y H ∨ L2.DTup K (DB K) x y H
theorem mon_DA {K : PySem.W.Frag} : L2.Mon (DA K) := L2.Mon.or L2.mon_flat (L2.mon_ins mon_RE)
theorem mon_DB {K : PySem.W.Frag} : L2.Mon (DB K) := L2.Mon.or mon_DA (L2.mon_tup mon_DA)
theorem mon_DC {K : PySem.W.Frag} : L2.Mon (DC K) := L2.Mon.or mon_DB (L2.mon_tup mon_DB)
theorem op_neL {X : Cx} {k j : Nat} (c : EqC X.prog X.w X.K X.mg X.base k "Entry" (sp_Entry___eq__ X.K)) (hr : Room j X.A) (hk : k + 3 ≤ j) : OpR X (compareOp .NotEq) (rNeG (L2.DTup X.K (DC X.K))) := by
  obtain ⟨f, fd, ps, F, hs, hf, hb⟩ := c.ex
  have F2 : FnOk X.prog X.w X.K X.mg X.base CX0 k f fd ps (L2.spEq (RE X.K)) := F.imp fun vs H Q E h => by
    obtain ⟨a, b, rfl, ⟨p, q, e, h1, h2⟩, hQ⟩ := h
    exact ⟨_, _, rfl, a, p, e, rfl, h1, .inl ⟨b, q, e, rfl, h2, by rw [enEq_self]; exact hQ H (fun _ _ z => z)⟩⟩
  have g1 : L2.EqG X k (DA X.K) := L2.EqG.or (L2.eqG_flat.mono (Nat.zero_le _)) (L2.eqG_ins F2 hs hf hb pass0)
  have g2 : L2.EqG X (k + 1) (DB X.K) := L2.EqG.or (g1.mono (Nat.le_succ _)) (L2.eqG_tup mon_DA g1)
  have g3 : L2.EqG X (k + 2) (DC X.K) := L2.EqG.or (g2.mono (Nat.le_succ _)) (L2.eqG_tup mon_DB g2)
  exact op_neG mon_DC g3 (hr.mono hk)
theorem da_int {K : PySem.W.Frag} {H : Hp} (i : Int) : DA K (.int i) (.int i) H := .inl ⟨rfl, rfl, by simp [eqV]⟩
theorem da_str {K : PySem.W.Frag} {H : Hp} (z : Str) : DA K (.str z) (.str z) H := .inl ⟨rfl, rfl, by simp [eqV]⟩
theorem dc_a {K : PySem.W.Frag} {H : Hp} {x y : V} (h : DA K x y H) : DC K x y H := .inl (.inl h)
theorem prs_ints {K : PySem.W.Frag} {H : Hp} : ∀ xs : List Int, L2.Prs (DA K) (xs.map V.int) (xs.map V.int) H
  | [] => .nil
  | x :: xs => .cons (da_int x) (prs_ints xs)
theorem ent_ins {K : PySem.W.Frag} {H : Hp} {a b : Addr} {p q : Bool} {e : En} (h1 : Ent K H p a e) (h2 : Ent K H q b e) : DA K (.ref a) (.ref b) H := by
  obtain ⟨dx, _, _, _, fs, k1, _⟩ := id h1
  obtain ⟨dy, _, _, _, gs, k2, _⟩ := id h2
  exact .inr ⟨a, b, dx, dy, fs, gs, rfl, rfl, k1, k2, p, q, e, h1, h2⟩
theorem prs_pairs {K : PySem.W.Frag} {H : Hp} : ∀ {ps qs : List Addr} {xs : List (Ed × Int)}, Paired (fun q r => PrE K H q r) ps xs → Paired (fun q r => PrE K H q r) qs xs → L2.Prs (DB K) (ps.map V.ref) (qs.map V.ref) H
  | _, _, _, .nil, .nil => .nil
  | _, _, _, .cons h1 t1, .cons h2 t2 => by
    obtain ⟨a, p, g1, g2⟩ := h1
    obtain ⟨b, q, g3, g4⟩ := h2
    exact .cons (.inr ⟨_, _, _, _, rfl, rfl, g1, g3, .cons (ent_ins g2 g4) (.cons (da_int _) .nil)⟩) (prs_pairs t1 t2)
theorem ltH_eq {K : PySem.W.Frag} {H : Hp} {a b : Addr} : ∀ {L : Let}, LtH K H a L → LtH K H b L → L2.DTup K (DC K) (.ref a) (.ref b) H
  | .hello _, h, g => ⟨_, _, _, _, rfl, rfl, h, g, .cons (dc_a (da_str _)) (.cons (dc_a (da_int _)) .nil)⟩
  | .ask _, h, g => ⟨_, _, _, _, rfl, rfl, h, g, .cons (dc_a (da_str _)) (.cons (dc_a (da_int _)) .nil)⟩
  | .entries _ _ _, h, g => by
    obtain ⟨p, ps, h1, h2, h3⟩ := h
    obtain ⟨q, qs, g1, g2, g3⟩ := g
    exact ⟨_, _, _, _, rfl, rfl, h1, g1, .cons (dc_a (da_str _)) (.cons (dc_a (da_int _)) (.cons (dc_a (da_int _)) (.cons (.inr ⟨_, _, _, _, rfl, rfl, h2, g2, prs_pairs h3 g3⟩) .nil)))⟩
  | .request _ _ _ _, h, g => ⟨_, _, _, _, rfl, rfl, h, g, .cons (dc_a (da_str _)) (.cons (dc_a (da_str _)) (.cons (dc_a (da_int _)) (.cons (dc_a (da_int _)) .nil)))⟩
  | .block _, h, g => by
    obtain ⟨d, h1, h2⟩ := h
    obtain ⟨e, g1, g2⟩ := g
    exact ⟨_, _, _, _, rfl, rfl, h1, g1, .cons (dc_a (da_str _)) (.cons (dc_a (da_int _)) (.cons (.inl (.inr ⟨_, _, _, _, rfl, rfl, h2, g2, prs_ints _⟩)) .nil))⟩
  | .refused _, h, g => ⟨_, _, _, _, rfl, rfl, h, g, .cons (dc_a (da_str _)) (.cons (dc_a (da_int _)) .nil)⟩
/-! defs as values -/
theorem cal_at {P : Program} {w : World} {K : PySem.W.Frag} {mg : Str → Option Value} {base : Heap} {k : Nat} {x : Str} {sp : Sp} {a : Addr} (c : Cal P w K mg base k x sp) (g : mg x = some (.ref a)) : C8.CalAt P w K mg base k a sp := by
  obtain ⟨f, fd, ps, F, hm, kp, b⟩ := c.ex
  rw [g] at hm
  cases hm
  exact ⟨fd, ps, F, kp, b⟩
/-! promises -/
def sp_wall (K : PySem.W.Frag) : Sp := fun vs H Q E => ∃ x0, vs = [x0] ∧ True
def KeyA (K : PySem.W.Frag) (H : Hp) (q : Addr) (ks : List Int) : Prop := SqT K H q (ks.map V.int) ∧ IsKey ks
theorem KeyA.same {K : PySem.W.Frag} {H H' : Hp} {q : Addr} {ks : List Int} (h : KeyA K H q ks) (s : Same H H') : KeyA K H' q ks := ⟨same_tup s h.1, h.2⟩
def sp_seal_entry (K : PySem.W.Frag) : Sp := sp2 fun a b H Q => ∃ (e q : Addr) (x : Ed) (ks : List Int) (p : Bool), a = .ref e ∧ b = .ref q ∧ Ent K H p e x.en ∧ x.Ok ∧ KeyA K H q ks ∧ ∀ (r : Addr) (H' : Hp), Same H H' → Ent K H' p r (x.sl ks).en → Q (.ref r) H'
def sp_open_entry (K : PySem.W.Frag) : Sp := sp2 fun a b H Q => ∃ (e q : Addr) (x : Ed) (ks : List Int) (p : Bool), a = .ref e ∧ b = .ref q ∧ Ent K H p e (x.sl ks).en ∧ x.Ok ∧ KeyA K H q ks ∧ ∀ (r : Addr) (H' : Hp), Same H H' → Ent K H' p r x.en → Q (.ref r) H'
def sp_with (K : PySem.W.Frag) : Sp := sp3 fun a b c H Q => ∃ (q bs : Addr) (p : Bool) (e : En) (nm : Str) (bl : List Int), a = .ref q ∧ b = .str nm ∧ c = .ref bs ∧ Ent K H p q e ∧ SqT K H bs (bl.map V.int) ∧ ∀ (r : Addr) (H' : Hp), Same H H' → Ent K H' p r { e with nm := nm, bl := bl } → Q (.ref r) H'
def sp_seal_letter (K : PySem.W.Frag) : Sp := sp2 fun a b H Q => ∃ (l q : Addr) (L : Let) (ks : List Int), a = .ref l ∧ b = .ref q ∧ LtH K H l L ∧ L.Ok ∧ KeyA K H q ks ∧ ∀ (r : Addr) (H' : Hp), Same H H' → LtH K H' r (L.sl ks) → Q (.ref r) H'
def sp_open_letter (K : PySem.W.Frag) : Sp := sp2 fun a b H Q => ∃ (l q : Addr) (L : Let) (ks : List Int), a = .ref l ∧ b = .ref q ∧ LtH K H l (L.sl ks) ∧ L.Ok ∧ KeyA K H q ks ∧ ∀ (r : Addr) (H' : Hp), Same H H' → LtH K H' r L → Q (.ref r) H'
def sp_changed (K : PySem.W.Frag) : Sp := fun vs H Q _ => ∃ a b c d e, vs = [a, b, c, d, e] ∧ ∃ (l q : Addr) (L : Let) (ks : List Int) (m : Bool), a = .ref l ∧ b = .ref q ∧
  c = .ref (if m = true then He.ga K "seal_name" else He.ga K "open_name") ∧ d = .ref (if m = true then He.ga K "seal_entry" else He.ga K "open_entry") ∧ e = .ref (if m = true then He.ga K "_seal_blocks" else He.ga K "_open_blocks") ∧
  LtH K H l (inL m ks L) ∧ L.Ok ∧ KeyA K H q ks ∧ ∀ (r : Addr) (H' : Hp), Same H H' → LtH K H' r (ouL m ks L) → Q (.ref r) H'
def cpS (x : Ed) : Str := nmS x.ds ++ Str.ofString "~" ++ Str.ofString (toString x.mr.1) ++ Str.ofString "-" ++ Str.ofString (toString x.mr.2)
def sp_copy_name (K : PySem.W.Frag) : Sp := sp1 fun a H Q => ∃ (e : Addr) (x : Ed) (p : Bool), a = .ref e ∧ Ent K H p e x.en ∧ x.Ok ∧ ∀ (t : Str) (H' : Hp), Same H H' → t = (cpS x) → Q (.str t) H'
def sp_law_entry (K : PySem.W.Frag) : Sp := sp2 fun a b H Q => ∃ (st sc : Addr) (ns ds : List Int) (t : Str), a = .ref st ∧ b = .str (nmS ds ++ t) ∧ Dw K st sc ns H ∧ isD 66 ds ∧ 1 ≤ ds.length ∧ ds.length ≤ 27 ∧ Tail t ∧ t.length ≤ 100 ∧
  ∀ (r : Addr) (x : Ed) (H' : Hp), Kp st H H' → Dw K st sc ns H' → x.Ok → Ent K (hid [st] H') true r x.en → Q (.ref r) H'
def sp_law_sealed (K : PySem.W.Frag) : Sp := sp_seal_entry K
def sp_law_block (K : PySem.W.Frag) : Sp := sp1 fun a H Q => ∃ (st sc : Addr) (ns : List Int), a = .ref st ∧ Dw K st sc ns H ∧ ∀ (c : List Int) (H' : Hp), Kp st H H' → Dw K st sc ns H' → Piece c → Q (.int (bnum c)) H'
def sp_law_sealed_block (K : PySem.W.Frag) : Sp := sp2 fun a b H Q => ∃ (c : List Int) (q : Addr) (ks : List Int), a = .int (bnum c) ∧ b = .ref q ∧ Piece c ∧ KeyA K H q ks ∧ ∀ H', Same H H' → Q (.int (bnum (mix 256 ks c))) H'
def sp_law_data (K : PySem.W.Frag) : Sp := sp1 fun a H Q => ∃ c : List Int, a = .int (bnum c) ∧ Piece c ∧ ∀ (r : Addr) (H' : Hp), Same H H' → SqT K H' r (c.map V.int) → Q (.ref r) H'
def PrL (K : PySem.W.Frag) (H : Hp) (ks : List Int) (q : Addr) (L : Let) : Prop := ∃ a b, SqT K H q [.ref a, .ref b] ∧ LtH K H a L ∧ LtH K H b (L.sl ks) ∧ L.Ok
def sp_law_letters (K : PySem.W.Frag) : Sp := sp3 fun a b c H Q => ∃ (st sc el q : Addr) (ns ks : List Int) (ps : List Addr) (xs : List Ed), a = .ref st ∧ b = .ref el ∧ c = .ref q ∧ Dw K st sc ns H ∧ SqL K (hid [st] H) el (ps.map V.ref) ∧ Ents K (hid [st] H) true ps (xs.map Ed.en) ∧ (∀ x ∈ xs, x.Ok) ∧ xs.length ≤ 20 ∧ KeyA K (hid [st] H) q ks ∧
  ∀ (r : Addr) (qs : List Addr) (Ls : List Let) (H' : Hp), Kp st H H' → SqL K H' r (qs.map V.ref) → qs.length ≤ 20 → Paired (fun q L => PrL K H' ks q L) qs Ls → Q (.ref r) H'
def sp_law (K : PySem.W.Frag) : Sp := sp1 fun a H Q => ∃ (sa : Addr) (ns : List Int), a = .ref sa ∧ SqL K H sa (ns.map V.int) ∧ ns.length ≤ 63 ∧ ∀ H', Q (.bl true) H'
theorem pow8 : ((2 : Int) ^ 8 = 256) ∧ ((2 : Int) ^ 16 = 65536) ∧ ((2 : Int) ^ 24 = 16777216) ∧ ((2 : Int) ^ 32 = 4294967296) ∧ ((2 : Int) ^ 0 = 1) := by decide
theorem bn1 (a : Int) : bnum [a] = 256 + a := by show (1 * 256 + a) = _; omega
theorem bn2 (a b : Int) : bnum [a, b] = 65536 + 256 * a + b := by show ((1 * 256 + a) * 256 + b) = _; omega
theorem bn3 (a b c : Int) : bnum [a, b, c] = 16777216 + 65536 * a + 256 * b + c := by show (((1 * 256 + a) * 256 + b) * 256 + c) = _; omega
theorem bn4 (a b c d : Int) : bnum [a, b, c, d] = 4294967296 + 16777216 * a + 65536 * b + 256 * c + d := by show ((((1 * 256 + a) * 256 + b) * 256 + c) * 256 + d) = _; omega
theorem ex8 : ((8 : Int) * (1 + ((0 : Nat) : Int))).toNat = 8 ∧ ((8 : Int) * (1 + ((1 : Nat) : Int))).toNat = 16 ∧ ((8 : Int) * (1 + ((2 : Nat) : Int))).toNat = 24 ∧ ((8 : Int) * (1 + ((3 : Nat) : Int))).toNat = 32 := by decide
theorem shp {c : List Int} (h : Piece c) {i : Nat} (hi : i < 4) : (0 < bnum c / 2 ^ ((8 : Int) * (1 + ((i : Nat) : Int))).toNat) ↔ i < c.length := by
  obtain ⟨e1, e2, e3, e4⟩ := ex8
  obtain ⟨p1, p2, p3, p4, _⟩ := pow8
  have hb := h.b
  have h1 := h.h1
  have h4 := h.h4
  match c, h1, h4 with
  | [a], _, _ =>
    have ha := hb a (by simp)
    rw [bn1]
    match i, hi with
    | 0, _ => rw [e1, p1]; simp; omega
    | 1, _ => rw [e2, p2]; simp; omega
    | 2, _ => rw [e3, p3]; simp; omega
    | 3, _ => rw [e4, p4]; simp; omega
  | [a, b], _, _ =>
    have ha := hb a (by simp)
    have hb2 := hb b (by simp)
    rw [bn2]
    match i, hi with
    | 0, _ => rw [e1, p1]; simp; omega
    | 1, _ => rw [e2, p2]; simp; omega
    | 2, _ => rw [e3, p3]; simp; omega
    | 3, _ => rw [e4, p4]; simp; omega
  | [a, b, c], _, _ =>
    have ha := hb a (by simp)
    have hb2 := hb b (by simp)
    have hb3 := hb c (by simp)
    rw [bn3]
    match i, hi with
    | 0, _ => rw [e1, p1]; simp; omega
    | 1, _ => rw [e2, p2]; simp; omega
    | 2, _ => rw [e3, p3]; simp; omega
    | 3, _ => rw [e4, p4]; simp; omega
  | [a, b, c, d], _, _ =>
    have ha := hb a (by simp)
    have hb2 := hb b (by simp)
    have hb3 := hb c (by simp)
    have hb4 := hb d (by simp)
    rw [bn4]
    match i, hi with
    | 0, _ => rw [e1, p1]; simp; omega
    | 1, _ => rw [e2, p2]; simp; omega
    | 2, _ => rw [e3, p3]; simp; omega
    | 3, _ => rw [e4, p4]; simp; omega
theorem filt_m {m : Nat} (h1 : 1 ≤ m) (h4 : m ≤ 4) : ((List.range 4).filter fun i => decide (i < m)).length = m := by
  match m, h1, h4 with
  | 1, _, _ => rfl
  | 2, _, _ => rfl
  | 3, _, _ => rfl
  | 4, _, _ => rfl
theorem bya {c : List Int} (h : Piece c) {i : Nat} (hi : i < c.length) : bnum c / 2 ^ ((8 : Int) * (((c.length : Nat) : Int) - 1 - (0 + ((i : Nat) : Int)))).toNat % 2 ^ 8 = c.getD i 0 := by
  obtain ⟨p1, p2, p3, p4, p0⟩ := pow8
  have hb := h.b
  have h4 := h.h4
  have ex : ∀ j : Nat, ((8 : Int) * (j : Nat)).toNat = 8 * j := fun j => by omega
  have go : ∀ j : Nat, c.length = i + j + 1 → bnum c / 2 ^ (8 * j) % 2 ^ 8 = c.getD i 0 := fun j hj => by
    clear ex h
    match c, h4, hi, hj with
    | [a], _, hi, hj =>
      have h_a := hb a (by simp)
      rw [bn1]
      obtain rfl : i = 0 := by simp at hi; exact hi
      obtain rfl : j = 0 := by simp at hj; omega
      show (256 + a) / 2 ^ 0 % 2 ^ 8 = a
      rw [p0, p1]; omega
    | [a, b], _, hi, hj =>
      have h_a := hb a (by simp)
      have h_b := hb b (by simp)
      rw [bn2]
      rcases (by simp at hi; omega : i = 0 ∨ i = 1) with rfl | rfl
      · obtain rfl : j = 1 := by simp at hj; omega
        show (65536 + 256 * a + b) / 2 ^ 8 % 2 ^ 8 = a
        rw [p1]; omega
      · obtain rfl : j = 0 := by simp at hj; omega
        show (65536 + 256 * a + b) / 2 ^ 0 % 2 ^ 8 = b
        rw [p0, p1]; omega
    | [a, b, c], _, hi, hj =>
      have h_a := hb a (by simp)
      have h_b := hb b (by simp)
      have h_c := hb c (by simp)
      rw [bn3]
      rcases (by simp at hi; omega : i = 0 ∨ i = 1 ∨ i = 2) with rfl | rfl | rfl
      · obtain rfl : j = 2 := by simp at hj; omega
        show (16777216 + 65536 * a + 256 * b + c) / 2 ^ 16 % 2 ^ 8 = a
        rw [p2, p1]; omega
      · obtain rfl : j = 1 := by simp at hj; omega
        show (16777216 + 65536 * a + 256 * b + c) / 2 ^ 8 % 2 ^ 8 = b
        rw [p1]; omega
      · obtain rfl : j = 0 := by simp at hj; omega
        show (16777216 + 65536 * a + 256 * b + c) / 2 ^ 0 % 2 ^ 8 = c
        rw [p0, p1]; omega
    | [a, b, c, d], _, hi, hj =>
      have h_a := hb a (by simp)
      have h_b := hb b (by simp)
      have h_c := hb c (by simp)
      have h_d := hb d (by simp)
      rw [bn4]
      rcases (by simp at hi; omega : i = 0 ∨ i = 1 ∨ i = 2 ∨ i = 3) with rfl | rfl | rfl | rfl
      · obtain rfl : j = 3 := by simp at hj; omega
        show (4294967296 + 16777216 * a + 65536 * b + 256 * c + d) / 2 ^ 24 % 2 ^ 8 = a
        rw [p3, p1]; omega
      · obtain rfl : j = 2 := by simp at hj; omega
        show (4294967296 + 16777216 * a + 65536 * b + 256 * c + d) / 2 ^ 16 % 2 ^ 8 = b
        rw [p2, p1]; omega
      · obtain rfl : j = 1 := by simp at hj; omega
        show (4294967296 + 16777216 * a + 65536 * b + 256 * c + d) / 2 ^ 8 % 2 ^ 8 = c
        rw [p1]; omega
      · obtain rfl : j = 0 := by simp at hj; omega
        show (4294967296 + 16777216 * a + 65536 * b + 256 * c + d) / 2 ^ 0 % 2 ^ 8 = d
        rw [p0, p1]; omega
  have hj := go (c.length - 1 - i) (by omega)
  rw [← ex] at hj
  rw [show (((c.length : Nat) : Int) - 1 - (0 + ((i : Nat) : Int))) = ((c.length - 1 - i : Nat) : Int) by omega]
  exact hj
theorem get_map (c : List Int) : (List.range c.length).map (fun i => V.int (c.getD i 0)) = c.map V.int := by
  refine List.ext_getElem? fun i => ?_
  rw [List.getElem?_map, List.getElem?_map]
  by_cases h : i < c.length
  · rw [List.getElem?_range h, List.getElem?_eq_getElem h, Option.map_some, Option.map_some, List.getD_eq_getElem?_getD, List.getElem?_eq_getElem h]; rfl
  · rw [List.getElem?_eq_none (by rw [List.length_range]; omega), List.getElem?_eq_none (by omega)]; rfl
theorem chunk_one {c : List Int} (h : Piece c) : chunks c = [c] := by
  have h1 := h.h1
  have h4 := h.h4
  match c, h1, h4 with
  | [a], _, _ => rfl
  | [a, b], _, _ => rfl
  | [a, b, c], _, _ => rfl
  | [a, b, c, d], _, _ => rfl
theorem nums_one {c : List Int} (h : Piece c) : nums c = [bnum c] := by unfold nums; rw [chunk_one h]; rfl
theorem mixC_one {ks c : List Int} (h : Piece c) : mixC ks c = mix 256 ks c := by unfold mixC; rw [chunk_one h]; simp
def kH (H : Hp) (x : V) : Int × Int := match x with
  | .ref t => match H t with
    | some (.tup [.int i, .int j]) => (i, j)
    | _ => (0, 0)
  | _ => (0, 0)
theorem kH_at {H : Hp} {t : Addr} {i j : Int} (h : H t = some (.tup [.int i, .int j])) : kH H (.ref t) = (i, j) := by
  unfold kH
  simp only [h]
theorem cnt_good {m : Vc} (g : Good m) : ∀ c ∈ m, cnt m c.1 = c.2 := by
  have nd := g.nd
  clear g
  induction m with
  | nil => intro c h; cases h
  | cons x m ih =>
    intro c h
    rw [List.map_cons, List.nodup_cons] at nd
    rcases List.mem_cons.mp h with rfl | h
    · simp [cnt]
    · have hne : x.1 ≠ c.1 := fun e => nd.1 (by rw [e]; exact List.mem_map.mpr ⟨c, h, rfl⟩)
      have := ih nd.2 c h
      simp [cnt, hne] at this ⊢
      exact this
theorem sort_made {m s : Vc} (g : Good m) (hp : s.Perm m) (hs : (s.map (·.1)).Pairwise (· ≤ ·)) : s = made fun k => cnt m (((k : Nat) : Int) + 1) := by
  rw [← vector_made g (hp.map _) hs, List.map_map]
  refine (List.map_id s).symm.trans (List.map_congr_left fun c hc => ?_)
  show c = (c.1, cnt m c.1)
  rw [cnt_good g c (hp.mem_iff.mp hc)]
theorem dw_st {K : PySem.W.Frag} {st sc : Addr} {ns : List Int} {H : Hp} (d : Dw K st sc ns H) : ∃ l, H st = some (.lst l) := by
  obtain ⟨a, b, c, h1, h2, hc, h3⟩ := d.s
  exact ⟨_, h3⟩
theorem dw_nt {K : PySem.W.Frag} {st sc : Addr} {ns : List Int} {H : Hp} (d : Dw K st sc ns H) : ∀ x ∈ [st], NT H x := fun x hx => by
  obtain ⟨l, e⟩ := dw_st d
  rw [List.mem_singleton.mp hx]
  exact nt_lst e
theorem e_cv {σ : L2.St} {i : Nat} {A B : Addr} {m : Bool} {s1 s2 : Sp} {t : TA} {H : Hp} {Q : VK} (hs : σ[i]? = some (some (.ref (if m = true then A else B)))) (h : t σ H fun vs H1 => if m = true then s1 vs H1 Q E0 else s2 vs H1 Q E0) : C8.tCallV i A B s1 s2 t σ H Q := by
  cases m
  · exact .inr ⟨hs, h⟩
  · exact .inl ⟨hs, h⟩
theorem chN {K : PySem.W.Frag} {H : Hp} {Q : VK} {m : Bool} {ks ds : List Int} {t : Str} {q : Addr} (hk : KeyA K H q ks) (hd : isD 66 ds) (l1 : 1 ≤ ds.length) (l2 : ds.length ≤ 27) (ht : Tail t) (lt : t.length ≤ 100) (k : ∀ H', Same H H' → Q (.str (nmS (ouD m ks ds) ++ t)) H') :
    if m = true then sp_seal_name K [.str (nmS (inD m ks ds) ++ t), .ref q] H Q E0 else sp_open_name K [.str (nmS (inD m ks ds) ++ t), .ref q] H Q E0 := by
  cases m
  · refine ⟨_, _, rfl, mix 66 ks ds, ks, t, q, rfl, rfl, hk.1, hk.2, mix_isD b66 ks hd, ht, by rw [mix_len b66 ks hd]; exact l1, by rw [mix_len b66 ks hd]; exact l2, by omega, fun es H1 h1 h2 h3 s1 => ?_⟩
    rw [mix66_inj hk.2 hd h1 h2 h3]
    exact k H1 s1
  · exact ⟨_, _, rfl, ds, ks, t, q, rfl, rfl, hk.1, hk.2, hd, ht, by omega, k⟩
theorem chB {K : PySem.W.Frag} {H : Hp} {Q : VK} {m : Bool} {ks c : List Int} {p q : Addr} (hk : KeyA K H q ks) (hp : SqT K H p [.int (bnum (inC m ks c))]) (hc : Piece c) (k : ∀ r H', Same H H' → H' r = some (.tup [.int (bnum (ouC m ks c))]) → Q (.ref r) H') :
    if m = true then sp_seal_blocks K [.ref p, .ref q] H Q E0 else sp_open_blocks K [.ref p, .ref q] H Q E0 := by
  cases m
  · refine ⟨_, _, rfl, p, q, [mix 256 ks c], ks, rfl, rfl, hp, fun d hd => by rw [List.mem_singleton.mp hd]; exact mix_piece hc, by show 1 ≤ 1000; decide, hk.1, hk.2, fun r H1 es g1 g2 hr s1 er => ?_⟩
    have e : es = [c] := map_mix_inj hk.2 g1 (fun d hd => by rw [List.mem_singleton.mp hd]; exact hc) g2
    subst e
    exact k r H1 s1 er
  · exact ⟨_, _, rfl, p, q, [c], ks, rfl, rfl, hp, fun d hd => by rw [List.mem_singleton.mp hd]; exact hc, by show 1 ≤ 1000; decide, hk.1, hk.2, fun r H1 hr s1 er => k r H1 s1 er⟩
theorem chE {K : PySem.W.Frag} {H : Hp} {Q : VK} {m : Bool} {ks : List Int} {x : Ed} {p : Bool} {e q : Addr} (hk : KeyA K H q ks) (hE : Ent K H p e (inE m ks x).en) (ok : x.Ok) (k : ∀ r H', Same H H' → Ent K H' p r (ouE m ks x).en → Q (.ref r) H') :
    if m = true then sp_seal_entry K [.ref e, .ref q] H Q E0 else sp_open_entry K [.ref e, .ref q] H Q E0 := by
  cases m
  · exact ⟨_, _, rfl, e, q, x, ks, p, rfl, rfl, hE, ok, hk, k⟩
  · exact ⟨_, _, rfl, e, q, x, ks, p, rfl, rfl, hE, ok, hk, k⟩
theorem in_ent {K : PySem.W.Frag} {H : Hp} {l : Addr} {m : Bool} {ks : List Int} {b u : Int} {xs : List (Ed × Int)} (h : LtH K H l (inL m ks (.entries b u xs))) : LtH K H l (.entries b u (xs.map fun r => (inE m ks r.1, r.2))) := by
  cases m
  · exact h
  · have e : (xs.map fun r => (inE true ks r.1, r.2)) = xs := by
      refine (List.map_congr_left fun r _ => ?_).trans (List.map_id xs)
      rfl
    rw [e]; exact h
theorem ou_ent {K : PySem.W.Frag} {H : Hp} {l : Addr} {m : Bool} {ks : List Int} {b u : Int} {xs : List (Ed × Int)} (h : LtH K H l (.entries b u (xs.map fun r => (ouE m ks r.1, r.2)))) : LtH K H l (ouL m ks (.entries b u xs)) := by
  cases m
  · have e : (xs.map fun r => (ouE false ks r.1, r.2)) = xs := by
      refine (List.map_congr_left fun r _ => ?_).trans (List.map_id xs)
      rfl
    rw [e] at h; exact h
  · exact h
theorem i_dT {p : Prop} [Decidable p] {A B : Prop} (h : p) (q : A) : if decide p = true then A else B := by rw [decide_eq_true h]; exact i_T q
theorem i_dF {p : Prop} [Decidable p] {A B : Prop} (h : ¬ p) (q : B) : if decide p = true then A else B := by rw [decide_eq_false h]; exact i_F q
theorem PrE.updE {K : PySem.W.Frag} {H : Hp} {q E : Addr} {r : Ed × Int} {l : List V} {o : HO} (h : PrE K H q r) (he : H E = some (.lst l)) : PrE K (upd H E o) q r := let ⟨a, p, h1, h2⟩ := h; ⟨a, p, sq_updE h1 he, h2.updE he⟩
/-- a comprehension of made objects, each told by one of a row -/
theorem lc_pr {β : Type} {J : It} {n : Nat} {G : Hp → Prop} {Y : Nat → Hp → V → Hp → Prop} (w : Walk J n G Y) {g : TG} {te : TE} {vs : List Nat} {σ : L2.St} {Da : Addr} {H0 : Hp} {Q : VK} (hD : H0 Da = none) (hn : n ≤ 1000000)
    (hG : ∀ H, Same H0 H → G H) (RR : Hp → Addr → β → Prop) (mono : ∀ H H' q b, Same H H' → RR H q b → RR H' q b) (upE : ∀ H q b E l o, RR H q b → H E = some (.lst l) → RR (upd H E o) q b) (bs : List β) (hb : bs.length = n)
    (hs : ∀ (i : Nat) (x : V) (H H' : Hp) (C : VK) (E : Hp → Prop), i < n → Same H0 H → Y i H x H' → (∀ q b H3, bs[i]? = some b → Same H H3 → RR H3 q b → C (.ref q) H3) →
      g x (wipe σ vs) H' fun σ2 H2 => wipe σ2 vs = wipe σ vs ∧ tYes σ2 H2 fun b H3 => if b = true then te σ2 H3 C else E H3)
    (hd : ∀ (H : Hp) (qs : List Addr), Same H0 H → H Da = some (.lst (qs.map V.ref)) → Paired (RR H) qs bs → Q (.ref Da) H) : LcB J g tYes te vs σ Da H0 Q := by
  refine lc_it w (fun i H => Same H0 H ∧ ∃ qs : List Addr, H Da = some (.lst (qs.map V.ref)) ∧ Paired (RR H) qs (bs.take i)) ⟨same_new hD, [], upd_same, by rw [List.take_zero]; exact .nil⟩ (fun i H _ p => hG H p.1) (fun i x H H' hi p y => ?_) (fun H p => ?_)
  · obtain ⟨s1, qs, e1, p1⟩ := p
    refine hs i x H H' _ _ hi s1 y fun q b H3 hbi s3 r3 => ?_
    have lq := paired_len p1
    rw [List.length_take] at lq
    refine ⟨_, s3 _ _ e1, Nat.lt_of_le_of_lt (by rw [List.length_map]; omega : _ ≤ 1000000) (by decide), Same.mut (s1.trans s3) hD, qs ++ [q], by rw [upd_same, List.map_append]; rfl, ?_⟩
    rw [List.take_add_one, hbi]
    exact paired_snoc (paired_imp (fun _ _ z => upE _ _ _ _ _ _ (mono _ _ _ _ s3 z) (s3 _ _ e1)) p1) (upE _ _ _ _ _ _ r3 (s3 _ _ e1))
  · obtain ⟨s1, qs, e1, p1⟩ := p
    rw [← hb, List.take_length] at p1
    exact hd H qs s1 e1 p1
theorem lc_dwX {K : PySem.W.Frag} {g : TG} {σ : L2.St} {te : TE} {vs : List Nat} {Q : VK} {Da st sc : Addr} {ns : List Int} {H0 : Hp} {lo : Int} {n : Nat} (d0 : Dw K st sc ns H0) (hD : H0 Da = none) (hn : n ≤ 1000)
    (hs : ∀ (i : Nat) (H2 : Hp) (C : VK) (E : Hp → Prop), i < n → Kp st H0 H2 → Dw K st sc ns H2 → (∀ p (x : Ed) H3, Kp st H2 H3 → Dw K st sc ns H3 → x.Ok → Ent K (hid [st] H3) true p x.en → C (.ref p) H3) →
      g (.int (lo + i)) (wipe σ vs) H2 fun σ2 H2 => wipe σ2 vs = wipe σ vs ∧ tYes σ2 H2 fun b H3 => if b = true then te σ2 H3 C else E H3)
    (hd : ∀ (H : Hp) (ps : List Addr) (xs : List Ed), Kp st H0 H → Dw K st sc ns H → H Da = some (.lst (ps.map V.ref)) → xs.length = n → Ents K (hid [st] H) true ps (xs.map Ed.en) → (∀ x ∈ xs, x.Ok) → Q (.ref Da) H) : LcB (Itr lo n) g tYes te vs σ Da H0 Q := by
  have nD := d0.free hD
  refine lc_rng (fun i H2 => Kp st H0 H2 ∧ Dw K st sc ns H2 ∧ ∃ (ps : List Addr) (xs : List Ed), H2 Da = some (.lst (ps.map V.ref)) ∧ xs.length = i ∧ Ents K (hid [st] H2) true ps (xs.map Ed.en) ∧ ∀ x ∈ xs, x.Ok) ⟨Kp.new hD, d0.same (same_new hD), [], [], upd_same, rfl, .nil, fun _ he => by cases he⟩ (fun i H2 hi p => ?_) (fun H2 p => ?_)
  · obtain ⟨k4, d4, ps, es, e4, l4, p4, n4⟩ := p
    refine hs i H2 _ _ hi k4 d4 fun p e H3 k5 d5 f5 hE => ?_
    have e5 := k5 _ _ nD e4
    have lp := paired_len p4
    rw [List.length_map] at lp
    have nm : Da ∉ [st] := fun m => nD (List.mem_singleton.mp m)
    have e6 : hid [st] H3 Da = some (.lst (ps.map V.ref)) := by rw [hid_at nm]; exact e5
    refine ⟨_, e5, Nat.lt_of_le_of_lt (by rw [List.length_map]; omega : _ ≤ 1000) (by decide), (k4.trans k5).mut hD, Dw.mut d0 d5 hD (k4.trans k5), ps ++ [p], es ++ [e], by rw [upd_same, List.map_append]; rfl, by simp [l4], ?_, fun x hx => ?_⟩
    · rw [hid_upd nm, List.map_append]
      exact paired_snoc (paired_imp (fun _ _ q => (q.same (kp_same k5)).updE e6) p4) (hE.updE e6)
    · rcases List.mem_append.mp hx with h | h
      · exact n4 x h
      · rw [List.mem_singleton.mp h]; exact f5
  · obtain ⟨k4, d4, ps, es, e4, l4, p4, n4⟩ := p
    exact hd H2 ps es k4 d4 e4 l4 p4 n4
theorem e_catT {K : PySem.W.Frag} {H : Hp} {Q : VK} {a b : Addr} {xs ys : List V} (h1 : SqT K H a xs) (h2 : SqT K H b ys) (hn : xs.length + ys.length ≤ 1000) (q : ∀ r H', Same H H' → SqT K H' r (xs ++ ys) → Q (.ref r) H') : rCatA K (.ref a) (.ref b) H Q :=
  ⟨a, b, xs, ys, rfl, rfl, h1, h2, Nat.le_trans hn (by decide), fun e => q b H (Same.refl H) (by rw [e]; exact h2), fun _ e => q a H (Same.refl H) (by rw [e, List.append_nil]; exact h1), fun _ _ p hp => q p _ (same_new hp) (SqT.of upd_same)⟩
theorem prd_impM {α β : Type} {R S : α → β → Prop} : ∀ {xs : List α} {ys : List β}, Paired R xs ys → (∀ a b, a ∈ xs → R a b → S a b) → Paired S xs ys
  | _, _, .nil, _ => .nil
  | _, _, .cons h t, f => .cons (f _ _ (List.mem_cons_self ..) h) (prd_impM t fun a b m r => f a b (List.mem_cons_of_mem _ m) r)
theorem pvec_hid {K : PySem.W.Frag} {D : List Addr} {H : Hp} {a : Addr} {v : Vc} (h : PVec K H a v) (n : ∀ d ∈ D, NT H d) (n2 : ∀ d ∈ D, ∃ xs, H d = some (.lst xs)) : PVec K (hid D H) a v := by
  obtain ⟨ps, ⟨o, h1, h2⟩, h3⟩ := h
  exact ⟨ps, ⟨o, h1, by rw [hid_at fun m => by obtain ⟨xs, e⟩ := n2 a m; rw [h2] at e; cases e]; exact h2⟩, paired_imp (fun _ _ q => sqT_hid q n) h3⟩
theorem refs_of : ∀ {us : List V}, (∀ u ∈ us, ∃ q, u = .ref q) → ∃ qs : List Addr, us = qs.map V.ref
  | [], _ => ⟨[], rfl⟩
  | u :: us, h => by
    obtain ⟨q, e⟩ := h u (List.mem_cons_self ..)
    obtain ⟨qs, e2⟩ := refs_of fun x m => h x (List.mem_cons_of_mem _ m)
    exact ⟨q :: qs, by rw [e, e2]; rfl⟩
theorem pairs_kH {H : Hp} : ∀ {qs : List Addr} {m : Vc}, Paired (fun q c => H q = some (.tup [.int c.1, .int c.2])) qs m → qs.map (fun z => kH H (.ref z)) = m
  | _, _, .nil => rfl
  | _, _, .cons h t => by rw [List.map_cons, kH_at h, pairs_kH t]
theorem prd_mapI {α β : Type} {R : α → β → Prop} {f : α → β} : ∀ {l : List α}, (∀ a ∈ l, R a (f a)) → Paired R l (l.map f)
  | [], _ => .nil
  | a :: l, h => .cons (h a (List.mem_cons_self ..)) (prd_mapI fun x m => h x (List.mem_cons_of_mem _ m))
/-- the sorted pairs are a vector -/
theorem sort_vec {K : PySem.W.Frag} {H : Hp} {qs : List Addr} {m : Vc} {ys : List V} (hq : Paired (fun q c => H q = some (.tup [.int c.1, .int c.2])) qs m) (g : Good m) (h1 : SrtO.Srtd (ltP (kH H)) ys) (h2 : SrtO.Stb (ltP (kH H)) ys (qs.map V.ref)) :
    ∃ zs : List Addr, ys = zs.map V.ref ∧ Prs K H zs (made fun k => cnt m (((k : Nat) : Int) + 1)) := by
  obtain ⟨zs, rfl⟩ := refs_of fun u hu => by
    obtain ⟨q, _, e⟩ := List.mem_map.mp (h2.perm.mem_iff.mp hu)
    exact ⟨q, e.symm⟩
  have hz : ∀ z ∈ zs, H z = some (.tup [.int (kH H (.ref z)).1, .int (kH H (.ref z)).2]) := fun z mz => by
    obtain ⟨q, mq, e⟩ := List.mem_map.mp (h2.perm.mem_iff.mp (List.mem_map.mpr ⟨z, mz, rfl⟩))
    cases e
    obtain ⟨i, hi⟩ := List.getElem?_of_mem mq
    obtain ⟨c, hc, hh⟩ := paired_get hq i _ hi
    rw [kH_at hh]
    exact hh
  have hp : (zs.map fun z => kH H (.ref z)).Perm m := by
    have := h2.perm.map (kH H)
    rw [List.map_map, List.map_map] at this
    rw [← pairs_kH hq]
    exact this
  refine ⟨zs, rfl, ?_⟩
  rw [← sort_made g hp ?_]
  · exact prd_mapI fun z mz => SqT.of (hz z mz)
  · rw [List.map_map]
    have : (zs.map V.ref).Pairwise fun x y => (kH H x).1 ≤ (kH H y).1 := List.Pairwise.imp (fun {x y} h => by
      have := SrtO.lexB_no.mp h
      omega) h1
    rw [List.pairwise_map] at this
    rw [List.pairwise_map]
    exact this
theorem good_snoc {m : Vc} {n : Int} (sb : (m.map (·.1)).Sublist [1, 3, 9]) (ps : ∀ c ∈ m, 0 < c.2) (hn : 0 < n) : Good (m ++ [(4, n)]) := by
  have hm : ∀ c ∈ m, c.1 = 1 ∨ c.1 = 3 ∨ c.1 = 9 := fun c hc => by
    have := sb.subset (List.mem_map.mpr ⟨c, hc, rfl⟩)
    simpa using this
  refine ⟨?_, fun c hc => ?_⟩
  · rw [List.map_append, List.nodup_append]
    refine ⟨sb.nodup (by decide), by simp, fun x hx z hz => ?_⟩
    obtain ⟨c, hc, rfl⟩ := List.mem_map.mp hx
    have e : z = 4 := by simpa using hz
    rw [e]
    have := hm c hc
    omega
  · rcases List.mem_append.mp hc with h | h
    · have := hm c h
      have := ps c h
      omega
    · rw [List.mem_singleton.mp h]; exact ⟨by show (1 : Int) ≤ 4; decide, by show (4 : Int) ≤ 9; decide, hn⟩
theorem cnt_nn {m : Vc} (g : Good m) (d : Int) : 0 ≤ cnt m d := by
  have := g.rg
  clear g
  induction m with
  | nil => exact Int.le_refl 0
  | cons c m ih =>
    show 0 ≤ (if c.1 = d then c.2 else cnt m d)
    split
    · have := this c (List.mem_cons_self ..); omega
    · exact ih fun x h => this x (List.mem_cons_of_mem _ h)
theorem mxI_lt (kd : Nat → PyData) {n : Nat} (h : 0 < n) : mxI kd n < n := by
  have h1 := argBest_lt (mxB kd) (n - 1)
  show argBest (mxB kd) (n - 1) < n
  omega
def dEd : Ed := ⟨[], Str.empty, fun _ => 0, 0, (0, 0), false, 0, []⟩
theorem dEd_en : dEd.en = dE := by
  show (⟨nmS [] ++ Str.empty, fun _ => 0, 0, (0, 0), false, 0, []⟩ : En) = ⟨"", fun _ => 0, 0, (0, 0), false, 0, []⟩
  rw [show nmS [] ++ Str.empty = ("" : Str) by decide +kernel]
theorem getD_map1 {α β : Type} (f : α → β) (d : α) : ∀ (xs : List α) (i : Nat), (xs.map f).getD i (f d) = f (xs.getD i d)
  | [], _ => rfl
  | _ :: _, 0 => rfl
  | _ :: xs, i + 1 => getD_map1 f d xs i
def bestE (xs : List Ed) : Ed := xs.getD (mxI (kdL (xs.map Ed.en)) (xs.map Ed.en).length) dEd
def wEd (xs : List Ed) : Ed := { bestE xs with f := wf (xs.map Ed.en) (bestE xs).en (bestE xs).f }
theorem wEd_en (xs : List Ed) : (wEd xs).en = winE (xs.map Ed.en) := by
  have e : enB (xs.map Ed.en) = (bestE xs).en := by
    unfold enB bestE
    rw [← dEd_en, getD_map1]
  unfold winE
  rw [e]
  rfl
theorem map_bnum_inj : ∀ {cs es : List (List Int)}, (∀ c ∈ cs, Piece c) → (∀ c ∈ es, Piece c) → cs.map bnum = es.map bnum → cs = es
  | [], [], _, _, _ => rfl
  | [], _ :: _, _, _, h => by cases h
  | _ :: _, [], _, _, h => by cases h
  | c :: cs, e :: es, h1, h2, h => by
    have h3 := List.cons.inj h
    have pc := h1 c (List.mem_cons_self ..)
    have pe := h2 e (List.mem_cons_self ..)
    have := congrArg bbytes h3.1
    rw [bbytes_bnum pc, bbytes_bnum pe] at this
    rw [this, map_bnum_inj (fun x hx => h1 x (List.mem_cons_of_mem _ hx)) (fun x hx => h2 x (List.mem_cons_of_mem _ hx)) h3.2]
theorem alk_sl {x y : Ed} {ks : List Int} (hk : IsKey ks) (hx : x.Ok) (hy : y.Ok) : alk (x.sl ks).en (y.sl ks).en = alk x.en y.en := by
  have e : ((x.sl ks).en.bl = (y.sl ks).en.bl) ↔ (x.en.bl = y.en.bl) := by
    constructor
    · intro h
      have h1 := map_bnum_inj (hx.sl ks).p (hy.sl ks).p h
      have h2 := map_mix_inj hk hx.p hy.p h1
      show x.cs.map bnum = y.cs.map bnum
      rw [h2]
    · intro h
      have h1 := map_bnum_inj hx.p hy.p h
      show (x.cs.map (mix 256 ks)).map bnum = (y.cs.map (mix 256 ks)).map bnum
      rw [h1]
  unfold alk
  rw [decide_eq_decide.mpr e]
  rfl
theorem wf_sl {ks : List Int} (hk : IsKey ks) {b : Ed} (hb : b.Ok) : ∀ {xs : List Ed}, (∀ x ∈ xs, x.Ok) → ∀ f, wf (xs.map fun x => (x.sl ks).en) (b.sl ks).en f = wf (xs.map Ed.en) b.en f
  | [], _, _ => rfl
  | x :: xs, h, f => by
    have ih := wf_sl hk hb (xs := xs) fun y m => h y (List.mem_cons_of_mem _ m)
    unfold wf at ih ⊢
    rw [List.map_cons, List.map_cons, List.foldl_cons, List.foldl_cons, alk_sl hk (h x (List.mem_cons_self ..)) hb]
    exact ih _
theorem kdL_sl {ks : List Int} (xs : List Ed) : kdL (xs.map fun x => (x.sl ks).en) = kdL (xs.map Ed.en) := by
  funext i
  unfold kdL
  induction xs generalizing i with
  | nil => rfl
  | cons x xs ih =>
    cases i with
    | zero => rfl
    | succ i => exact ih i
theorem win_sl {ks : List Int} (hk : IsKey ks) {xs : List Ed} (h : ∀ x ∈ xs, x.Ok) (hb : (bestE xs).Ok) : winE (xs.map fun x => (x.sl ks).en) = ((wEd xs).sl ks).en := by
  have e1 : (mxI (kdL (xs.map fun x => (x.sl ks).en)) (xs.map fun x => (x.sl ks).en).length) = mxI (kdL (xs.map Ed.en)) (xs.map Ed.en).length := by
    rw [kdL_sl, List.length_map, List.length_map]
  have e2 : enB (xs.map fun x => (x.sl ks).en) = ((bestE xs).sl ks).en := by
    unfold enB bestE
    rw [e1]
    generalize mxI (kdL (xs.map Ed.en)) (xs.map Ed.en).length = i
    have : dE = ((dEd).sl ks).en := by
      have e : mix 66 ks [] = [] := List.length_eq_zero_iff.mp (mix_len b66 ks (fun d hd => by cases hd))
      rw [← dEd_en]
      show (⟨nmS [] ++ Str.empty, fun _ => 0, 0, (0, 0), false, 0, []⟩ : En) = ⟨nmS (mix 66 ks []) ++ Str.empty, fun _ => 0, 0, (0, 0), false, 0, []⟩
      rw [e]
    rw [this]
    exact getD_map1 (fun x : Ed => (x.sl ks).en) dEd xs i
  unfold winE
  rw [e2, wf_sl hk hb h]
  rfl
theorem getD_mem {α : Type} {d : α} : ∀ {xs : List α} {i : Nat}, i < xs.length → xs.getD i d ∈ xs
  | _ :: _, 0, _ => List.mem_cons_self ..
  | _ :: _, i + 1, h => List.mem_cons_of_mem _ (getD_mem (by simpa using h))
theorem wf_nn2 {xs : List Ed} (h : ∀ x ∈ xs, x.Ok) (b : En) : ∀ {f : Nat → Int}, (∀ k, 0 ≤ f k) → ∀ k, 0 ≤ wf (xs.map Ed.en) b f k := by
  induction xs with
  | nil => exact fun h => h
  | cons x xs ih =>
    intro f hf k
    unfold wf
    rw [List.map_cons, List.foldl_cons]
    refine ih (fun y m => h y (List.mem_cons_of_mem _ m)) (fun j => ?_) k
    split
    · show 0 ≤ mx (f j) (x.en.f j)
      unfold mx
      have := hf j
      have := (h x (List.mem_cons_self ..)).nn j
      split
      · exact this
      · exact hf j
    · exact hf j
theorem wEd_ok {xs : List Ed} (h : ∀ x ∈ xs, x.Ok) (hb : (bestE xs).Ok) : (wEd xs).Ok := ⟨hb.d, hb.l1, hb.l2, hb.t, hb.lt, hb.p, hb.lc, wf_nn2 h _ hb.nn, hb.m0, hb.m1⟩
def tlM (m : Int × Int) : Str := Str.ofString "~" ++ (Str.ofString (toString m.1) ++ (Str.ofString "-" ++ Str.ofString (toString m.2)))
theorem cp_split (x : Ed) : cpS x = nmS x.ds ++ tlM x.mr := by
  unfold cpS tlM
  simp only [str_assoc]
theorem tlM_ok {x : Ed} (h : x.Ok) : Tail (tlM x.mr) ∧ (tlM x.mr).length ≤ 20 := by
  refine ⟨.inr ⟨_, rfl⟩, ?_⟩
  have l1 := num_len h.m0.1 h.m1.1
  have l2 := num_len h.m0.2 h.m1.2
  unfold tlM
  rw [len_app, len_app, len_app, show (Str.ofString "~").length = 1 by decide +kernel, show (Str.ofString "-").length = 1 by decide +kernel]
  omega
theorem e_neSE {K : PySem.W.Frag} {H : Hp} {Q : VK} {a b : Addr} {p p2 : Bool} {e : En} (h1 : Ent K H p a e) (h2 : Ent K H p2 b e) (q : Q (.bl false) H) : rNeO K (cEnt K) (sp_Entry___eq__ K) E0 (.ref a) (.ref b) H Q := by
  obtain ⟨dx, v, m, bb, fs, k1, _⟩ := id h1
  obtain ⟨dy, v2, m2, bb2, gs, k2, _⟩ := id h2
  exact ⟨a, b, dx, dy, fs, gs, rfl, rfl, k1, k2, _, _, rfl, a, p, e, rfl, h1, .inl ⟨b, p2, e, rfl, h2, _, rfl, by rw [enEq_self]; exact q⟩⟩
theorem LtH.updE {K : PySem.W.Frag} {H : Hp} {a E : Addr} {l : List V} {o : HO} (he : H E = some (.lst l)) : ∀ {L : Let}, LtH K H a L → LtH K (upd H E o) a L
  | .hello _, h => sq_updE (xs := _) h he
  | .ask _, h => sq_updE (xs := _) h he
  | .entries _ _ _, h => let ⟨p, ps, h1, h2, h3⟩ := h; ⟨p, ps, sq_updE h1 he, sq_updE h2 he, paired_imp (fun _ _ q => q.updE he) h3⟩
  | .request _ _ _ _, h => sq_updE (xs := _) h he
  | .block _, h => let ⟨d, h1, h2⟩ := h; ⟨d, sq_updE h1 he, sq_updE h2 he⟩
  | .refused _, h => sq_updE (xs := _) h he
theorem PrL.same {K : PySem.W.Frag} {H H' : Hp} {ks : List Int} {q : Addr} {L : Let} (h : PrL K H ks q L) (s : Same H H') : PrL K H' ks q L := let ⟨a, b, h1, h2, h3, h4⟩ := h; ⟨a, b, same_tup s h1, h2.same s, h3.same s, h4⟩
theorem PrL.updE {K : PySem.W.Frag} {H : Hp} {ks : List Int} {q E : Addr} {L : Let} {l : List V} {o : HO} (h : PrL K H ks q L) (he : H E = some (.lst l)) : PrL K (upd H E o) ks q L := let ⟨a, b, h1, h2, h3, h4⟩ := h; ⟨a, b, sq_updE h1 he, h2.updE he, h3.updE he, h4⟩
theorem prd_mapR {α β γ : Type} {R : α → γ → Prop} {f : β → γ} : ∀ {xs : List α} {ys : List β}, Paired (fun a b => R a (f b)) xs ys → Paired R xs (ys.map f)
  | _, _, .nil => .nil
  | _, _, .cons h t => .cons h (prd_mapR t)
def LL (K : PySem.W.Frag) (H : Hp) (ks : List Int) (r0 : Addr) (qs : List Addr) (Ls : List Let) : Prop := H r0 = some (.lst (qs.map V.ref)) ∧ Paired (fun q L => PrL K H ks q L) qs Ls
theorem LL.same {K : PySem.W.Frag} {H H' : Hp} {ks : List Int} {r0 : Addr} {qs : List Addr} {Ls : List Let} (h : LL K H ks r0 qs Ls) (s : Same H H') : LL K H' ks r0 qs Ls := ⟨s _ _ h.1, paired_imp (fun _ _ q => q.same s) h.2⟩
theorem LL.add {K : PySem.W.Frag} {H : Hp} {ks : List Int} {r0 q : Addr} {qs : List Addr} {Ls : List Let} {L : Let} (h : LL K H ks r0 qs Ls) (p : PrL K H ks q L) : LL K (upd H r0 (.lst (qs.map V.ref ++ [.ref q]))) ks r0 (qs ++ [q]) (Ls ++ [L]) :=
  ⟨by rw [upd_same, List.map_append]; rfl, paired_snoc (paired_imp (fun _ _ z => z.updE h.1) h.2) (p.updE h.1)⟩
theorem KeyA.updE {K : PySem.W.Frag} {H : Hp} {q E : Addr} {ks : List Int} {l : List V} {o : HO} (h : KeyA K H q ks) (he : H E = some (.lst l)) : KeyA K (upd H E o) q ks := ⟨sq_updE h.1 he, h.2⟩
set_option maxHeartbeats 0
def d_block_number : He.DefD := ⟨("block_number", none), "block_number", "block_number", defArgs s_block_number, defBody s_block_number, defScope s_block_number, [], []⟩
def d_block_size : He.DefD := ⟨("block_size", none), "block_size", "block_size", defArgs s_block_size, defBody s_block_size, defScope s_block_size, [], []⟩
def d_is_block : He.DefD := ⟨("is_block", none), "is_block", "is_block", defArgs s_is_block, defBody s_is_block, defScope s_is_block, [], []⟩
def d_block_bytes : He.DefD := ⟨("block_bytes", none), "block_bytes", "block_bytes", defArgs s_block_bytes, defBody s_block_bytes, defScope s_block_bytes, [], []⟩
def d_split : He.DefD := ⟨("split", none), "split", "split", defArgs s_split, defBody s_split, defScope s_split, [], []⟩
def d_joined : He.DefD := ⟨("joined", none), "joined", "joined", defArgs s_joined, defBody s_joined, defScope s_joined, [], []⟩
def d_count_of : He.DefD := ⟨("count_of", none), "count_of", "count_of", defArgs s_count_of, defBody s_count_of, defScope s_count_of, [], []⟩
def d_join : He.DefD := ⟨("join", none), "join", "join", defArgs s_join, defBody s_join, defScope s_join, [], []⟩
def d_vector : He.DefD := ⟨("_vector", none), "_vector", "_vector", defArgs s_vector, defBody s_vector, defScope s_vector, [], []⟩
def d_counts_of : He.DefD := ⟨("counts_of", none), "counts_of", "counts_of", defArgs s_counts_of, defBody s_counts_of, defScope s_counts_of, [], []⟩
def d_Entry___init__ : He.DefD := ⟨("Entry", some "__init__"), "__init__", "Entry.__init__", defArgs s_Entry___init__, defBody s_Entry___init__, defScope s_Entry___init__, [], []⟩
def d_Entry___eq__ : He.DefD := ⟨("Entry", some "__eq__"), "__eq__", "Entry.__eq__", defArgs s_Entry___eq__, defBody s_Entry___eq__, defScope s_Entry___eq__, [], []⟩
def d_alike : He.DefD := ⟨("alike", none), "alike", "alike", defArgs s_alike, defBody s_alike, defScope s_alike, [], []⟩
def d_key_of : He.DefD := ⟨("key_of", none), "key_of", "key_of", defArgs s_key_of, defBody s_key_of, defScope s_key_of, [], []⟩
def d_winner : He.DefD := ⟨("winner", none), "winner", "winner", defArgs s_winner, defBody s_winner, defScope s_winner, [], []⟩
def d_root_of : He.DefD := ⟨("root_of", none), "root_of", "root_of", defArgs s_root_of, defBody s_root_of, defScope s_root_of, [], []⟩
def d_copy_name : He.DefD := ⟨("copy_name", none), "copy_name", "copy_name", defArgs s_copy_name, defBody s_copy_name, defScope s_copy_name, [], []⟩
def d_mixed : He.DefD := ⟨("mixed", none), "mixed", "mixed", defArgs s_mixed, defBody s_mixed, defScope s_mixed, [], []⟩
def d_unmixed : He.DefD := ⟨("unmixed", none), "unmixed", "unmixed", defArgs s_unmixed, defBody s_unmixed, defScope s_unmixed, [], []⟩
def d_factor : He.DefD := ⟨("factor", none), "factor", "factor", defArgs s_factor, defBody s_factor, defScope s_factor, [], []⟩
def d_number : He.DefD := ⟨("_number", none), "_number", "_number", defArgs s_number, defBody s_number, defScope s_number, [], []⟩
def d_turned_digits : He.DefD := ⟨("_turned_digits", none), "_turned_digits", "_turned_digits", defArgs s_turned_digits, defBody s_turned_digits, defScope s_turned_digits, [], []⟩
def d_power : He.DefD := ⟨("_power", none), "_power", "_power", defArgs s_power, defBody s_power, defScope s_power, [], []⟩
def d_inverse : He.DefD := ⟨("_inverse", none), "_inverse", "_inverse", defArgs s_inverse, defBody s_inverse, defScope s_inverse, [], []⟩
def d_seal_name : He.DefD := ⟨("seal_name", none), "seal_name", "seal_name", defArgs s_seal_name, defBody s_seal_name, defScope s_seal_name, [], []⟩
def d_open_name : He.DefD := ⟨("open_name", none), "open_name", "open_name", defArgs s_open_name, defBody s_open_name, defScope s_open_name, [], []⟩
def d_digits_of : He.DefD := ⟨("_digits_of", none), "_digits_of", "_digits_of", defArgs s_digits_of, defBody s_digits_of, defScope s_digits_of, [], []⟩
def d_name_of : He.DefD := ⟨("_name_of", none), "_name_of", "_name_of", defArgs s_name_of, defBody s_name_of, defScope s_name_of, [], []⟩
def d_seal_blocks : He.DefD := ⟨("_seal_blocks", none), "_seal_blocks", "_seal_blocks", defArgs s_seal_blocks, defBody s_seal_blocks, defScope s_seal_blocks, [], []⟩
def d_open_blocks : He.DefD := ⟨("_open_blocks", none), "_open_blocks", "_open_blocks", defArgs s_open_blocks, defBody s_open_blocks, defScope s_open_blocks, [], []⟩
def d_seal_content : He.DefD := ⟨("seal_content", none), "seal_content", "seal_content", defArgs s_seal_content, defBody s_seal_content, defScope s_seal_content, [], []⟩
def d_seal_entry : He.DefD := ⟨("seal_entry", none), "seal_entry", "seal_entry", defArgs s_seal_entry, defBody s_seal_entry, defScope s_seal_entry, [], []⟩
def d_open_entry : He.DefD := ⟨("open_entry", none), "open_entry", "open_entry", defArgs s_open_entry, defBody s_open_entry, defScope s_open_entry, [], []⟩
def d_with : He.DefD := ⟨("_with", none), "_with", "_with", defArgs s_with, defBody s_with, defScope s_with, [], []⟩
def d_seal_letter : He.DefD := ⟨("seal_letter", none), "seal_letter", "seal_letter", defArgs s_seal_letter, defBody s_seal_letter, defScope s_seal_letter, [], []⟩
def d_open_letter : He.DefD := ⟨("open_letter", none), "open_letter", "open_letter", defArgs s_open_letter, defBody s_open_letter, defScope s_open_letter, [], []⟩
def d_changed : He.DefD := ⟨("_changed", none), "_changed", "_changed", defArgs s_changed, defBody s_changed, defScope s_changed, [], []⟩
def d_law_draws : He.DefD := ⟨("_law_draws", none), "_law_draws", "_law_draws", defArgs s_law_draws, defBody s_law_draws, defScope s_law_draws, [], []⟩
def d_law_draw : He.DefD := ⟨("_law_draw", none), "_law_draw", "_law_draw", defArgs s_law_draw, defBody s_law_draw, defScope s_law_draw, [], []⟩
def d_law_key : He.DefD := ⟨("_law_key", none), "_law_key", "_law_key", defArgs s_law_key, defBody s_law_key, defScope s_law_key, [], []⟩
def d_law_user_name : He.DefD := ⟨("_law_user_name", none), "_law_user_name", "_law_user_name", defArgs s_law_user_name, defBody s_law_user_name, defScope s_law_user_name, [], []⟩
def d_law_any_name : He.DefD := ⟨("_law_any_name", none), "_law_any_name", "_law_any_name", defArgs s_law_any_name, defBody s_law_any_name, defScope s_law_any_name, [], []⟩
def d_law_bytes : He.DefD := ⟨("_law_bytes", none), "_law_bytes", "_law_bytes", defArgs s_law_bytes, defBody s_law_bytes, defScope s_law_bytes, [], []⟩
def d_law_entry : He.DefD := ⟨("_law_entry", none), "_law_entry", "_law_entry", defArgs s_law_entry, defBody s_law_entry, defScope s_law_entry, [], []⟩
def d_law_sealed : He.DefD := ⟨("_law_sealed", none), "_law_sealed", "_law_sealed", defArgs s_law_sealed, defBody s_law_sealed, defScope s_law_sealed, [], []⟩
def d_law_block : He.DefD := ⟨("_law_block", none), "_law_block", "_law_block", defArgs s_law_block, defBody s_law_block, defScope s_law_block, [], []⟩
def d_law_sealed_block : He.DefD := ⟨("_law_sealed_block", none), "_law_sealed_block", "_law_sealed_block", defArgs s_law_sealed_block, defBody s_law_sealed_block, defScope s_law_sealed_block, [], []⟩
def d_law_data : He.DefD := ⟨("_law_data", none), "_law_data", "_law_data", defArgs s_law_data, defBody s_law_data, defScope s_law_data, [], []⟩
def d_law_letters : He.DefD := ⟨("_law_letters", none), "_law_letters", "_law_letters", defArgs s_law_letters, defBody s_law_letters, defScope s_law_letters, [], []⟩
def d_law : He.DefD := ⟨("law", none), "law", "law", defArgs s_law, defBody s_law, defScope s_law, [], []⟩
def fn : List He.DefD := [d_block_number, d_block_size, d_is_block, d_block_bytes, d_split, d_joined, d_count_of, d_join, d_vector, d_counts_of, d_Entry___init__, d_Entry___eq__, d_alike, d_key_of, d_winner, d_root_of, d_copy_name, d_mixed, d_unmixed, d_factor, d_number, d_turned_digits, d_power, d_inverse, d_seal_name, d_open_name, d_digits_of, d_name_of, d_seal_blocks, d_open_blocks, d_seal_content, d_seal_entry, d_open_entry, d_with, d_seal_letter, d_open_letter, d_changed, d_law_draws, d_law_draw, d_law_key, d_law_user_name, d_law_any_name, d_law_bytes, d_law_entry, d_law_sealed, d_law_block, d_law_sealed_block, d_law_data, d_law_letters, d_law]
def ex : List (PySem.W.Frag → Bool) := [clsB "Entry", clsLB "Entry", neB "Entry", eqB "Entry", bfB "gcd" "math.gcd"]
def fa : List He.Fa := [.glo "block_number", .glo "block_size", .glo "is_block", .glo "block_bytes", .glo "split", .glo "joined", .glo "count_of", .glo "join", .glo "_vector", .glo "counts_of", .glo "alike", .glo "key_of", .glo "winner", .glo "root_of", .glo "copy_name", .glo "mixed", .glo "unmixed", .glo "factor", .glo "_number", .glo "_turned_digits", .glo "_power", .glo "_inverse", .glo "seal_name", .glo "open_name", .glo "_digits_of", .glo "_name_of", .glo "_seal_blocks", .glo "_open_blocks", .glo "seal_content", .glo "seal_entry", .glo "open_entry", .glo "_with", .glo "seal_letter", .glo "open_letter", .glo "_changed", .glo "_law_draws", .glo "_law_draw", .glo "_law_key", .glo "_law_user_name", .glo "_law_any_name", .glo "_law_bytes", .glo "_law_entry", .glo "_law_sealed", .glo "_law_block", .glo "_law_sealed_block", .glo "_law_data", .glo "_law_letters", .glo "law", .glo "Entry", .free "abs", .free "dict", .free "enumerate", .free "int", .free "isinstance", .free "len", .free "list", .free "max", .free "range", .free "reversed", .free "sorted", .free "str", .free "tuple", .int "BLOCK" 4, .int "BYTE_BASE" 256, .str "CHARACTERS" "-./0123456789ABCDEFGHIJKLMNOPQRSTUVWXYZ_abcdefghijklmnopqrstuvwxyz~", .int "NAME_BASE" 66, .cls "Entry", .noat "Entry" "name", .noat "Entry" "vector", .noat "Entry" "height", .noat "Entry" "maker", .noat "Entry" "deleted", .noat "Entry" "time", .noat "Entry" "blocks", .mkr "Entry"]
abbrev R : PySem.W.OpenRow := PySem.W.OpenLaw.row PySem.Challenge.rw_folderkin_k55_sealed_entries_and_letters
abbrev hk : PySem.W.Hook := hookX 6 fa fn ex
def ob (s : PySem.W.SharedT) : AlX := obsXG 6 fa fn ex (HandSHeadRun.getT s)
theorem ob_eq (s : PySem.W.SharedT) : ob s = hk.obs s.abs := obsXG_eq (HandSHeadRun.getT_eq s)
theorem run (w : World) : HandSHeadRun.RunEqI R (PySem.W.view R.prog [0, 62]) hk ob 10000 [PySem.Str.ofString "gcd", PySem.Str.ofString "FolderkinError", PySem.Str.ofString "InvalidBlock", PySem.Str.ofString "BLOCK", PySem.Str.ofString "block_number", PySem.Str.ofString "block_size", PySem.Str.ofString "is_block", PySem.Str.ofString "block_bytes", PySem.Str.ofString "split", PySem.Str.ofString "joined", PySem.Str.ofString "count_of", PySem.Str.ofString "join", PySem.Str.ofString "_vector", PySem.Str.ofString "counts_of", PySem.Str.ofString "Entry", PySem.Str.ofString "alike", PySem.Str.ofString "key_of", PySem.Str.ofString "winner", PySem.Str.ofString "root_of", PySem.Str.ofString "copy_name", PySem.Str.ofString "BYTE_BASE", PySem.Str.ofString "NAME_BASE", PySem.Str.ofString "mixed", PySem.Str.ofString "unmixed", PySem.Str.ofString "factor", PySem.Str.ofString "_number", PySem.Str.ofString "_turned_digits", PySem.Str.ofString "_power", PySem.Str.ofString "_inverse", PySem.Str.ofString "CHARACTERS", PySem.Str.ofString "seal_name", PySem.Str.ofString "open_name", PySem.Str.ofString "_digits_of", PySem.Str.ofString "_name_of", PySem.Str.ofString "_seal_blocks", PySem.Str.ofString "_open_blocks", PySem.Str.ofString "seal_content", PySem.Str.ofString "seal_entry", PySem.Str.ofString "open_entry", PySem.Str.ofString "_with", PySem.Str.ofString "seal_letter", PySem.Str.ofString "open_letter", PySem.Str.ofString "_changed", PySem.Str.ofString "_law_draws", PySem.Str.ofString "_law_draw", PySem.Str.ofString "_law_key", PySem.Str.ofString "_law_user_name", PySem.Str.ofString "_law_any_name", PySem.Str.ofString "_law_bytes", PySem.Str.ofString "_law_entry", PySem.Str.ofString "_law_sealed", PySem.Str.ofString "_law_block", PySem.Str.ofString "_law_sealed_block", PySem.Str.ofString "_law_data", PySem.Str.ofString "_law_letters"] w := by
  unfold HandSHeadRun.RunEqI
  kernel_rfl
local macro_rules | `(tactic| walk_at "dr") => `(tactic| first
  | assumption
  | exact Dr.same (by assumption) (same_new (by assumption))
  | exact Dr.same (Dr.same (by assumption) (same_new (by assumption))) (same_new (by assumption)))
local macro_rules | `(tactic| walk_at "ar") => `(tactic| first | omega | (simp only [List.length_cons, List.length_nil, List.length_map, List.length_append]; omega) | (simp only [List.length_cons, List.length_nil, List.length_map, List.length_append] at *; omega) | decide | assumption)
local macro_rules | `(tactic| walk_at "sl") => `(tactic| first
  | exact Dr.seq (by assumption)
  | assumption
  | exact SqL.of (by assumption)
  | exact SqL.of upd_same)
local macro_rules | `(tactic| walk_at "slt") => `(tactic| first
  | assumption
  | exact SqT.of (by assumption)
  | exact SqT.of upd_same)
local macro_rules | `(tactic| walk_at "size") => `(tactic| first
  | assumption
  | (refine sz_of ?_; first | decide | omega | (simp only [List.length_cons, List.length_nil, List.length_map, List.length_append] at *; omega)))
local macro_rules | `(tactic| walk_at "seq") => `(tactic| first
  | assumption
  | exact .inl (Dr.seq (by assumption))
  | exact .inl (by assumption)
  | exact .inl (SqL.of (by assumption))
  | exact .inr (by assumption)
  | exact .inr (SqT.of (by assumption)))
local macro_rules | `(tactic| walk_at "cond") => `(tactic| first
  | ((with_reducible show CMul _ _); first | exact .inr ⟨by decide, by decide⟩ | exact .inl ⟨by decide, by decide⟩ | exact .inr ⟨by omega, by omega⟩ | exact .inl ⟨by omega, by omega⟩)
  | ((with_reducible show CDivW _ _); first | exact ⟨by decide, by decide⟩ | exact wide_div (b := 60) (by omega) (by omega) (by decide) (by decide))
  | ((with_reducible show CDiv _ _); first | exact ⟨by decide, by decide⟩ | exact ⟨by omega, by omega⟩)
  | ((with_reducible show CPow _ _); exact ⟨by decide, by decide, by decide⟩)
  | (show (0 : Int) < _; first | decide | omega)
  | (show (0 : Int) ≤ _; first | decide | omega))
local macro_rules | `(tactic| walk_at "st1") => `(tactic| first
  | ((with_reducible show tVar _ _ _ _); refine e_var rfl ?_)
  | ((with_reducible show tC _ _ _ _); refine e_c ?_)
  | ((with_reducible show tOp _ _ _ _ _ _); refine e_op ?_)
  | ((with_reducible show rI0 _ _ _ _ _); refine e_I0 ?_)
  | ((with_reducible show rI _ _ _ _ _ _); refine e_I (by walk_at "cond") ?_)
  | ((with_reducible show rEq (V.int _) (V.int _) _ _); refine e_eqI ?_)
  | ((with_reducible show rNe (V.int _) (V.int _) _ _); refine e_neI ?_)
  | ((with_reducible show rEq (V.str _) (V.str _) _ _); refine e_eqS ?_)
  | ((with_reducible show rNe (V.str _) (V.str _) _ _); refine e_neS ?_)
  | ((with_reducible show rEq (V.bl _) (V.bl _) _ _); refine e_eqB ?_)
  | ((with_reducible show rNe (V.bl _) (V.bl _) _ _); refine e_neB ?_)
  | ((with_reducible show rEq _ _ _ _); refine e_eq rfl ?_)
  | ((with_reducible show rNe _ _ _ _); refine e_ne rfl ?_)
  | ((with_reducible show tTest _ _ _ _); refine e_test ?_)
  | ((with_reducible show tB _ _ _ _); refine e_B ?_)
  | ((with_reducible show ∃ k, V.bl _ = V.bl k ∧ _); refine e_ex ?_)
  | ((with_reducible show ∃ k, V.int _ = V.int k ∧ _); refine e_exI ?_)
  | ((with_reducible show tAnd _ _ _ _ _); refine e_and ?_)
  | ((with_reducible show tOr _ _ _ _ _); refine e_or ?_)
  | ((with_reducible show tNot _ _ _ _); refine e_not ?_)
  | ((with_reducible show tYes _ _ _); refine e_yes ?_))
local macro_rules | `(tactic| walk_at "st2") => `(tactic| first
  | ((with_reducible show tAndV _ _ _ _ _); refine e_andV ?_)
  | ((with_reducible show tOrV _ _ _ _ _); refine e_orV ?_)
  | ((with_reducible show tNotV _ _ _ _); refine e_notV ?_)
  | ((with_reducible show tIf _ _ _ _ _ _); refine e_if ?_)
  | ((with_reducible show tChain _ _ _ _ _ _ _ _); refine e_chain ?_)
  | ((with_reducible show tSeq _ _ _ _ _); refine e_seq ?_)
  | ((with_reducible show tNext _ _ _); refine e_next ?_)
  | ((with_reducible show tBreak _ _ _); refine e_break ?_)
  | ((with_reducible show tCont _ _ _); refine e_cont ?_)
  | ((with_reducible show tDrop _ _ _ _); refine e_drop ?_)
  | ((with_reducible show tRet _ _ _ _); refine e_ret ?_)
  | ((with_reducible show tRetN _ _ _); refine e_retN ?_)
  | ((with_reducible show tIfS _ _ _ _ _ _); refine e_ifS ?_)
  | ((with_reducible show tAsg _ _ _ _ _); refine e_asg ?_)
  | ((with_reducible show gName _ _ _ _ _); refine e_name ?_)
  | ((with_reducible show gSub _ _ _ _ _ _ _); refine e_sub ?_)
  | ((with_reducible show tNil _ _ _); refine e_nil ?_)
  | ((with_reducible show tCons _ _ _ _ _); refine e_cons ?_)
  | ((with_reducible show tCall _ _ _ _ _ _ _); refine e_call ?_)
  | ((with_reducible show tCB _ _ _ _ _); refine e_CB ?_)
  | ((with_reducible show tTup _ _ _ _); refine e_tup ?_)
  | ((with_reducible show tLst _ _ _ _); refine e_lst ?_)
  | ((with_reducible show tSl _ _ _ _ _ _ _); refine e_sl ?_)
  | ((with_reducible show tNoPart _ _ _); refine e_noP ?_)
  | ((with_reducible show tPart _ _ _ _); refine e_part ?_)
  | ((with_reducible show tBM _ _ _ _ _ _ _ _); refine e_bm ?_)
  | ((with_reducible show tFor _ _ _ _ _ _); refine e_for ?_)
  | ((with_reducible show iList _ _ _ _ _); refine e_iList ?_)
  | ((with_reducible show iTup _ _ _ _ _); refine e_iTup ?_)
  | ((with_reducible show iStr _ _ _ _); refine e_iStr ?_)
  | ((with_reducible show iRng1 _ _ _ _); refine e_iRng1 ?_)
  | ((with_reducible show iRng2 _ _ _ _); refine e_iRng2 ?_)
  | ((with_reducible show (∃ i', [V.int _] = [V.int i'] ∧ _) ∨ ∃ k, [V.int _] = [V.bl k] ∧ _); refine Or.inl ⟨_, rfl, ?_⟩)
  | ((with_reducible show ∃ p ys, [V.ref _] = [V.ref p] ∧ (SqL _ _ p ys ∨ SqT _ _ p ys) ∧ _); refine ⟨_, _, rfl, (by walk_at "seq"), ?_⟩)
  | ((with_reducible show tLc _ _ _ _ _ _ _ _); refine e_lc ?_)
  | ((with_reducible show tM0 _ _ _ _ _); refine e_m0 ?_)
  | ((with_reducible show tM1 _ _ _ _ _ _); refine e_m1 ?_)
  | ((with_reducible show ∃ k, V.str _ = V.str k ∧ _); refine e_exS ?_)
  | ((with_reducible show ∃ k, V.ref _ = V.ref k ∧ (∃ xs, SqL _ _ k xs) ∧ _); refine e_exR (by walk_at "sl") ?_)
  | ((with_reducible show ∃ k, V.ref _ = V.ref k ∧ (∃ xs, SqT _ _ k xs) ∧ _); refine e_exRT (by walk_at "slt") ?_)
  | ((with_reducible show ∃ j, [V.int _] = [V.int j] ∧ _ ≤ j ∧ j < _ ∧ _); refine e_rng1 (by omega) (by omega) ?_)
  | ((with_reducible show ∃ i j, [V.int _, V.int _] = [V.int i, V.int j] ∧ _ ∧ _); refine e_rng2 (by omega) ?_)
  | ((with_reducible show ∃ z', [V.str _] = [V.str z'] ∧ z'.length ≤ sizeLine ∧ _); refine ⟨_, rfl, (by walk_at "size"), ?_⟩)
  | ((with_reducible show (∃ a, V.str _ = V.str a) ∧ _); refine ⟨⟨_, rfl⟩, ?_⟩)
  | ((with_reducible show rSlS (V.str _) _ _ _ _); refine e_slS (by walk_at "size") ?_)
  | ((with_reducible show wipe _ _ = wipe _ _ ∧ _); refine ⟨rfl, ?_⟩)
  | ((with_reducible show List.length _ ≤ sizeLine ∧ ∀ p, _); refine ⟨(by walk_at "size"), fun p hp => ?_⟩)
  | ((with_reducible show rIsi _ _ _ _); first | refine isi_bb ?_ | refine isi_ib ?_ | refine isi_bi ?_ | refine isi_ii ?_ | refine isi_tt (by assumption) ?_ | refine isi_ll (by assumption) ?_)
  | ((with_reducible show spDraw _ _ _ _ _); refine ⟨_, _, _, rfl, _, _, _, _, rfl, rfl, rfl, (by walk_at "dr"), (by walk_at "ar"), (by walk_at "ar"), ?_⟩)
  | ((with_reducible show tUn _ _ _ _ _); refine e_un ?_)
  | ((with_reducible show rU _ (V.int _) _ _); refine e_U ?_)
  | ((with_reducible show ∃ i, [V.int _] = [V.int i] ∧ _); refine ⟨_, rfl, ?_⟩)
  | ((with_reducible show gTup _ _ _ _ _ _ _); refine ⟨_, _, rfl, (by walk_at "slt"), rfl, ?_⟩)
  | ((with_reducible show gCons _ _ _ _ _ _); refine ⟨_, _, rfl, ?_⟩)
  | ((with_reducible show gNil _ _ _ _); refine ⟨rfl, ?_⟩)
  | ((with_reducible show tAug _ _ _ _ _ _); refine e_aug rfl ?_)
  | ((with_reducible show if true = true then _ else _); refine i_T ?_)
  | ((with_reducible show if false = true then _ else _); refine i_F ?_))
local macro_rules | `(tactic| walk_at "st") => `(tactic| first | walk_at "st1" | walk_at "st2" | (dsimp only [List.append_nil, List.nil_append, List.cons_append, Bool.not_true, Bool.not_false]))
local macro_rules | `(tactic| walk_at "go") => `(tactic| repeat walk_at "st")
local macro_rules | `(tactic| walk_at "st") => `(tactic| first
  | ((with_reducible show iRevR _ _ _ _); refine e_iRevR ?_)
  | ((with_reducible show tRg1 _ _ _ _); refine e_rg1 ?_)
  | ((with_reducible show tRg2 _ _ _ _ _); refine e_rg2 ?_)
  | ((with_reducible show iEnum _ _ _ _ _); refine e_iEnum ?_)
  | ((with_reducible show iEnumT _ _ _ _ _); refine e_iEnumT ?_)
  | ((with_reducible show iRng3 _ _ _ _); refine e_iRng3 ?_)
  | ((with_reducible show ∃ p ys, [V.ref _] = [V.ref p] ∧ SqL _ _ p ys ∧ _); refine ⟨_, _, rfl, (by walk_at "sl"), ?_⟩)
  | ((with_reducible show ∃ p ys, [V.ref _] = [V.ref p] ∧ SqT _ _ p ys ∧ _); refine ⟨_, _, rfl, (by walk_at "slt"), ?_⟩)
  | ((with_reducible show tyV _ "list" (V.ref _) _ ∧ _); refine ⟨.inl ⟨rfl, _, (by walk_at "sl")⟩, ?_⟩)
  | ((with_reducible show ∃ a b, V.bl _ = V.bl a ∧ V.bl _ = V.bl b ∧ _); refine ⟨_, _, rfl, rfl, ?_⟩)
  | ((with_reducible show ∃ c, V.bl _ = V.bl c ∧ _); refine ⟨_, rfl, ?_⟩)
  | ((with_reducible show if (!true) = true then _ else _); refine i_F ?_)
  | ((with_reducible show if (!false) = true then _ else _); refine i_T ?_))
local macro_rules | `(tactic| walk_at "st") => `(tactic| first
  | ((with_reducible show tWhile _ _ _ _ _); refine e_tWhile ?_)
  | ((with_reducible show tPar _ _ _ _ _ _); refine e_par ?_)
  | ((with_reducible show iRevR3 _ _ _ _); refine e_revR3 ?_)
  | ((with_reducible show tRg3 _ _ _ _); refine e_tRg3 ?_)
  | ((with_reducible show tRevL _ _ _ _ _); refine e_tRevL ?_))
local macro_rules | `(tactic| walk_at "cond") => `(tactic| assumption)
local macro_rules | `(tactic| walk_at "st") => `(tactic| first
  | ((with_reducible show tDGet _ _ _ _ _); refine e_tDGet ?_)
  | ((with_reducible show tDGet2 _ _ _ _ _ _); refine e_tDGet2 ?_)
  | ((with_reducible show sDPut _ _ _ _ _ _); refine e_sDPut ?_)
  | ((with_reducible show rIsi _ _ _ _); first | refine isi_nt ?_ | refine isi_it ?_ | refine isi_tq (by assumption) ?_ | refine isi_lt (by assumption) ?_))
local macro_rules | `(tactic| walk_at "ent") => `(tactic| first
  | assumption
  | exact Ent.same (by assumption) (by assumption))
local macro_rules | `(tactic| walk_at "st") => `(tactic| first
  | ((with_reducible show tMake _ _ _ _ _ _ _ _); refine e_tMake ?_)
  | ((with_reducible show tFld _ _ _ _ _ _); refine e_tFld ?_)
  | ((with_reducible show sFld _ _ _ _ _ _ _); refine e_sFld ?_)
  | ((with_reducible show tTupP _ _ _ _); refine e_tupP ?_)
  | ((with_reducible show tJs (_ :: _) _ _ _ _); refine e_js ?_)
  | ((with_reducible show tJs [] _ _ _ _); refine e_js0 ?_)
  | ((with_reducible show tFmt _ _ _ _); refine e_fmt ?_)
  | ((with_reducible show tMaxF _ _ _ _ _ _); refine e_maxF ?_)
  | ((with_reducible show ∃ a C dx fs v, V.ref _ = V.ref a ∧ _); first
    | refine f_name (by assumption) (by walk_at "ent") ?_
    | refine f_height (by assumption) (by walk_at "ent") ?_
    | refine f_deleted (by assumption) (by walk_at "ent") ?_
    | refine f_time (by assumption) (by walk_at "ent") ?_
    | refine f_vector (by assumption) (by walk_at "ent") fun v hv => ?_
    | refine f_maker (by assumption) (by walk_at "ent") fun v hv => ?_
    | refine f_blocks (by assumption) (by walk_at "ent") fun v hv => ?_))
local macro_rules | `(tactic| walk_at "wd") => `(tactic| repeat (first | walk_at "st" | refine i_dT rfl ?_ | refine i_dF (by decide) ?_))
section
variable {P : Program} {w : World} {K : PySem.W.Frag} {mg : Str → Option Value} {base : Heap}
theorem ok_block_number (T : Txt K mg)   {f : Addr} {fd : FuncData} (F : FnP K "block_number" s_block_number f fd) : FnOk P w K mg base CX0 1 f fd ["data"] (sp_block_number K) := by
  refine F.ok sc_block_number (fun vs H Q E h => ?_) (fun cdv A outer s H vs Q E hr h => ?_)
  · obtain ⟨_, rfl, _⟩ := h
    rfl
  · have S := sc_block_number
    refine ⟨_, PSs.nox (pss_cons (ps_set (i := 1) S.nd rfl (by first | exact .inl rfl | exact .inr rfl | exact .inr (.inl rfl) | exact .inr (.inr rfl)) pe_int)
    (pss_cons (ps_for PassesOwn.never rfl (pi_list (pv 0)) (pg_name (i := 2) S.nd rfl (by first | exact .inl rfl | exact .inr rfl | exact .inr (.inl rfl) | exact .inr (.inr rfl)))
    (pss_one (ps_set (i := 1) S.nd rfl (by first | exact .inl rfl | exact .inr rfl | exact .inr (.inl rfl) | exact .inr (.inr rfl)) (pe_op op_add (pe_op op_mul (pv 1) pe_int) (pv 2)))))
    (pss_one (ps_ret (pv 1))))), ?_⟩
    try dsimp only [cxOf, Cx.nox]
    obtain ⟨_, rfl, p, xs, rfl, hS, k⟩ := h
    walk_at "go"
    refine for_ints (ns := xs) (fun pre σ H1 => (∃ v2, σ = [some (.ref p), some (.int (bnum pre)), v2]) ∧ H1 = H) ⟨⟨_, rfl⟩, rfl⟩ (fun pre σ H1 q => by rw [q.2]; exact hS) (fun pre x post σ H1 e q => ?_) (fun σ H1 q => ?_)
    · obtain ⟨⟨v2, rfl⟩, rfl⟩ := q
      walk_at "go"
      refine ⟨⟨some (.int x), ?_⟩, rfl⟩
      have e2 : bnum (pre ++ [x]) = bnum pre * 256 + x := by
        unfold bnum
        rw [List.foldl_append]
        rfl
      rw [e2]
      rfl
    · obtain ⟨⟨v2, rfl⟩, rfl⟩ := q
      walk_at "go"
      exact k
theorem ok_block_size (T : Txt K mg)   {f : Addr} {fd : FuncData} (F : FnP K "block_size" s_block_size f fd) : FnOk P w K mg base CX0 1 f fd ["number"] (sp_block_size K) := by
  refine F.ok sc_block_size (fun vs H Q E h => ?_) (fun cdv A outer s H vs Q E hr h => ?_)
  · obtain ⟨_, rfl, _⟩ := h
    rfl
  · have S := sc_block_size
    refine ⟨_, PSs.nox (pss_cons (ps_for PassesOwn.never rfl (pi_range2 (by rfl) T.f_range (pa_cons pe_int (pa_cons (pe_op op_add (C8.pe_gc (by rfl) T.c_BLOCK) pe_int) pa_nil))) (pg_name (i := 1) S.nd rfl (by first | exact .inl rfl | exact .inr rfl | exact .inr (.inl rfl) | exact .inr (.inr rfl)))
    (pss_one (ps_if (pt_cmpR op_eq (pe_op op_shr (pv 0) (pe_op op_mul pe_int (pv 1))) pe_int (nomark _))
      (pss_one (ps_ret (pv 1)))
      pss_nil)))
    (pss_one (ps_ret pe_int))), ?_⟩
    try dsimp only [cxOf, Cx.nox]
    obtain ⟨_, rfl, n, rfl, k⟩ := h
    walk_at "go"
    refine for_rng (fun i σ H1 => (∃ v1, σ = [some (.int n), v1]) ∧ H1 = H ∧ (1 ≤ i → ¬ n / 256 = 1) ∧ (2 ≤ i → ¬ n / 65536 = 1) ∧ (3 ≤ i → ¬ n / 16777216 = 1) ∧ (4 ≤ i → ¬ n / 4294967296 = 1)) ⟨⟨_, rfl⟩, rfl, by omega, by omega, by omega, by omega⟩ (fun i σ H1 hi q => ?_) (fun σ H1 q => ?_)
    · obtain ⟨⟨v1, rfl⟩, rfl, q1, q2, q3, q4⟩ := q
      have hi4 : i < 4 := hi
      walk_at "go"
      match i, hi4 with
      | 0, _ =>
        show if decide (n / 256 = 1) = true then _ else _
        refine i_d (fun h1 => ?_) (fun h1 => ?_)
        · walk_at "go"
          have e : bsize n = 1 := by unfold bsize; rw [if_pos h1]
          rw [e] at k
          exact k
        · walk_at "go"
          exact ⟨⟨_, rfl⟩, rfl, fun _ => h1, by omega, by omega, by omega⟩
      | 1, _ =>
        show if decide (n / 65536 = 1) = true then _ else _
        refine i_d (fun h1 => ?_) (fun h1 => ?_)
        · walk_at "go"
          have e : bsize n = 2 := by unfold bsize; rw [if_neg (q1 (by omega)), if_pos h1]
          rw [e] at k
          exact k
        · walk_at "go"
          exact ⟨⟨_, rfl⟩, rfl, fun _ => q1 (by omega), fun _ => h1, by omega, by omega⟩
      | 2, _ =>
        show if decide (n / 16777216 = 1) = true then _ else _
        refine i_d (fun h1 => ?_) (fun h1 => ?_)
        · walk_at "go"
          have e : bsize n = 3 := by unfold bsize; rw [if_neg (q1 (by omega)), if_neg (q2 (by omega)), if_pos h1]
          rw [e] at k
          exact k
        · walk_at "go"
          exact ⟨⟨_, rfl⟩, rfl, fun _ => q1 (by omega), fun _ => q2 (by omega), fun _ => h1, by omega⟩
      | 3, _ =>
        show if decide (n / 4294967296 = 1) = true then _ else _
        refine i_d (fun h1 => ?_) (fun h1 => ?_)
        · walk_at "go"
          have e : bsize n = 4 := by unfold bsize; rw [if_neg (q1 (by omega)), if_neg (q2 (by omega)), if_neg (q3 (by omega)), if_pos h1]
          rw [e] at k
          exact k
        · walk_at "go"
          exact ⟨⟨_, rfl⟩, rfl, fun _ => q1 (by omega), fun _ => q2 (by omega), fun _ => q3 (by omega), fun _ => h1⟩
    · obtain ⟨⟨v1, rfl⟩, rfl, q1, q2, q3, q4⟩ := q
      walk_at "go"
      have e : bsize n = 0 := by unfold bsize; rw [if_neg (q1 (by decide)), if_neg (q2 (by decide)), if_neg (q3 (by decide)), if_neg (q4 (by decide))]
      rw [e] at k
      exact k
theorem ok_is_block (T : Txt K mg)  (c_block_size : Cal P w K mg base 1 "block_size" (sp_block_size K)) {f : Addr} {fd : FuncData} (F : FnP K "is_block" s_is_block f fd) : FnOk P w K mg base CX0 2 f fd ["number"] (sp_is_block K) := by
  refine F.ok sc_is_block (fun vs H Q E h => ?_) (fun cdv A outer s H vs Q E hr h => ?_)
  · obtain ⟨_, rfl, _⟩ := h
    rfl
  · have S := sc_is_block
    refine ⟨_, PSs.nox (pss_one (ps_ret (pe_cmpR op_gt (pe_c c_block_size hr (by decide) (by rfl) (pa_cons (pv 0) pa_nil)) pe_int (nomark _)))), ?_⟩
    try dsimp only [cxOf, Cx.nox]
    obtain ⟨_, rfl, n, rfl, k⟩ := h
    walk_at "go"
    refine ⟨_, rfl, n, rfl, ?_⟩
    walk_at "go"
    exact k
theorem ok_block_bytes (T : Txt K mg)  (c_block_size : Cal P w K mg base 1 "block_size" (sp_block_size K)) {f : Addr} {fd : FuncData} (F : FnP K "block_bytes" s_block_bytes f fd) : FnOk P w K mg base CX0 2 f fd ["number"] (sp_block_bytes K) := by
  refine F.ok sc_block_bytes (fun vs H Q E h => ?_) (fun cdv A outer s H vs Q E hr h => ?_)
  · obtain ⟨_, rfl, _⟩ := h
    rfl
  · have S := sc_block_bytes
    refine ⟨_, PSs.nox (pss_cons (ps_set (i := 1) S.nd rfl (by first | exact .inl rfl | exact .inr rfl | exact .inr (.inl rfl) | exact .inr (.inr rfl)) (pe_c c_block_size hr (by decide) (by rfl) (pa_cons (pv 0) pa_nil)))
    (pss_cons (ps_if (pt_cmpR op_eq (pv 1) pe_int (nomark _))
    (pss_one ps_never)
    pss_nil)
    (pss_one (ps_ret (pe_lc (own := [("behind", 2)]) (g := gName 2) (tt := tYes) rfl S.nd (pi_revR (by rfl) T.f_reversed (prg_1 (by rfl) T.f_range (pv 1))) (blkOk_by (N := N_block_bytes) (sc := defScope s_block_bytes) (by decide +kernel)) (fun _ _ _ _ _ => (pg_name (i := 2) S.nd rfl (by first | exact .inl rfl | exact .inr rfl | exact .inr (.inl rfl) | exact .inr (.inr rfl)))) (fun _ _ _ _ _ => pts_nil) (fun _ _ _ _ _ => (pe_op op_andM (pe_op op_shr (pv 0) (pe_op op_mul pe_int (pv 2))) pe_int))))))), ?_⟩
    try dsimp only [cxOf, Cx.nox]
    obtain ⟨_, rfl, n, rfl, hn, k⟩ := h
    walk_at "go"
    refine ⟨_, rfl, n, rfl, ?_⟩
    walk_at "go"
    refine i_d (fun h1 => ?_) (fun h1 => ?_)
    · exfalso; omega
    have h4 := (bsize_le n).2
    walk_at "go"
    refine ⟨by omega, by omega, by omega, by omega, ?_⟩
    intro D hD
    refine lc_map_rngC hD (by omega) (fun i => .int ((bbytes n).getD i 0)) (fun i H2 C E hi s2 hC => ?_) (fun H2 s2 e2 => ?_)
    · walk_at "go"
      refine ⟨_, 8, rfl, rfl, ?_⟩
      rw [byte_at hn hi]
      exact hC H2 (Same.refl H2)
    · refine k D H2 hD s2 ?_
      rw [e2, show (bsize n - 0).toNat = (bbytes n).length by rw [bbytes_length hn]; omega, map_getD]
theorem ok_split (T : Txt K mg)  (c_block_number : Cal P w K mg base 1 "block_number" (sp_block_number K)) {f : Addr} {fd : FuncData} (F : FnP K "split" s_split f fd) : FnOk P w K mg base CX0 2 f fd ["content"] (sp_split K) := by
  refine F.ok sc_split (fun vs H Q E h => ?_) (fun cdv A outer s H vs Q E hr h => ?_)
  · obtain ⟨_, rfl, _⟩ := h
    rfl
  · have S := sc_split
    refine ⟨_, PSs.nox (pss_one (ps_ret (pe_callTy call_tuple_of (by rfl) T.f_tuple (by first | rfl | decide +kernel) (pa_cons (pe_lc (own := [("at", 1)]) (g := gName 1) (tt := tYes) rfl S.nd (pi_range3 (by rfl) T.f_range (pa_cons pe_int (pa_cons (pe_callB call_len_seq (by rfl) T.f_len (by first | rfl | decide +kernel) (pa_cons (pv 0) pa_nil)) (pa_cons (C8.pe_gc (by rfl) T.c_BLOCK) pa_nil)))) (blkOk_by (N := N_split) (sc := defScope s_split) (by decide +kernel)) (fun _ _ _ _ _ => (pg_name (i := 1) S.nd rfl (by first | exact .inl rfl | exact .inr rfl | exact .inr (.inl rfl) | exact .inr (.inr rfl)))) (fun _ _ _ _ _ => pts_nil) (fun _ _ _ _ _ => (pe_c c_block_number hr (by decide) (by rfl) (pa_cons (pe_slice (slL K) (pv 0) (po_some (pv 1)) (po_some (pe_op op_add (pv 1) (C8.pe_gc (by rfl) T.c_BLOCK)))) pa_nil)))) pa_nil)))), ?_⟩
    try dsimp only [cxOf, Cx.nox]
    obtain ⟨_, rfl, p, xs, rfl, hS, hl, k⟩ := h
    walk_at "go"
    refine ⟨_, _, _, _, rfl, range4 (by omega) (by rw [List.length_map]; omega), ?_⟩
    intro D hD
    refine lc_map_rngC hD (by rw [List.length_map]; omega) (fun i => .int (bnum ((xs.drop (4 * i)).take 4))) (fun i H2 C E hi s2 hC => ?_) (fun H2 s2 e2 => ?_)
    · walk_at "go"
      refine e_slL (s2.seq hS) fun r hr => ?_
      rw [cut_chunk]
      walk_at "go"
      refine ⟨_, rfl, r, _, rfl, SqL.of upd_same, ?_⟩
      exact hC _ (same_new hr)
    · walk_at "go"
      refine ⟨D, _, rfl, .inl ⟨SqL.of e2, fun l hl2 => ?_⟩⟩
      refine k l _ (s2.free hl2) (s2.trans (same_new hl2)) ?_
      rw [upd_same, nums_range]
      have e : (((xs.map V.int).length : Nat) : Int).toNat = xs.length := by rw [List.length_map]; omega
      rw [e]
theorem ok_joined (T : Txt K mg)  (c_is_block : Cal P w K mg base 2 "is_block" (sp_is_block K)) (c_block_bytes : Cal P w K mg base 2 "block_bytes" (sp_block_bytes K)) {f : Addr} {fd : FuncData} (F : FnP K "joined" s_joined f fd) : FnOk P w K mg base CX0 3 f fd ["numbers"] (sp_joined K) := by
  refine F.ok sc_joined (fun vs H Q E h => ?_) (fun cdv A outer s H vs Q E hr h => ?_)
  · obtain ⟨_, rfl, _⟩ := h
    rfl
  · have S := sc_joined
    refine ⟨_, PSs.nox (pss_cons (ps_set (i := 1) S.nd rfl (by first | exact .inl rfl | exact .inr rfl | exact .inr (.inl rfl) | exact .inr (.inr rfl)) (pe_lst pa_nil))
    (pss_cons (ps_for PassesOwn.never rfl (pi_or (pi_enum (by rfl) T.f_enumerate (pa_cons (pv 0) pa_nil)) (pi_enumT (by rfl) T.f_enumerate (pa_cons (pv 0) pa_nil))) (pg_tup rfl (pgs_cons (pg_name (i := 2) S.nd rfl (by first | exact .inl rfl | exact .inr rfl | exact .inr (.inl rfl) | exact .inr (.inr rfl))) (pgs_cons (pg_name (i := 3) S.nd rfl (by first | exact .inl rfl | exact .inr rfl | exact .inr (.inl rfl) | exact .inr (.inr rfl))) pgs_nil)))
    (pss_cons (ps_if (pt_not (pt_val (pe_c c_is_block hr (by decide) (by rfl) (pa_cons (pv 3) pa_nil))))
      (pss_one ps_never)
      pss_nil)
      (pss_one (ps_expr (pe_bm PySem.F.plainAttrs_list PySem.F.slot_list_extend PySem.F.type_list_extend mt_extend (pv 1) (pa_cons (pe_c c_block_bytes hr (by decide) (by rfl) (pa_cons (pv 3) pa_nil)) pa_nil))))))
    (pss_one (ps_ret (pv 1))))), ?_⟩
    try dsimp only [cxOf, Cx.nox]
    obtain ⟨_, rfl, p, ns, rfl, hS, hl, hb, k⟩ := h
    walk_at "go"
    rename_i D hD
    have sD : Same H (upd H D (.lst [])) := same_new hD
    rcases hS with hS | hS
    · refine .inl ?_
      walk_at "go"
      refine ⟨p, ns.map V.int, rfl, sD.seq hS, ?_⟩
      refine for_enumI (ns := ns) (fun pre σ H1 => (∃ v2 v3, σ = [some (.ref p), some (.ref D), v2, v3]) ∧ Same H H1 ∧ H1 D = some (.lst ((pre.flatMap bbytes).map V.int))) ⟨⟨_, _, rfl⟩, sD, upd_same⟩ (fun pre σ H1 q => q.2.1.seq hS) (fun pre x post t σ H1 e q ht => ?_) (fun σ H1 q => ?_)
      · obtain ⟨⟨v2, v3, rfl⟩, s1, e1⟩ := q
        have hx : 0 < bsize x := hb x (by rw [e]; simp)
        have s2 : Same H1 (upd H1 t (.tup [.int (pre.length : Nat), .int x])) := same_new ht
        walk_at "go"
        refine ⟨_, rfl, x, rfl, ?_⟩
        walk_at "go"
        refine i_nd (fun h1 => absurd hx h1) (fun h1 => ?_)
        walk_at "go"
        have e3 := s2 _ _ e1
        refine ⟨.inl ⟨rfl, _, SqL.of e3⟩, ?_⟩
        walk_at "go"
        refine ⟨_, rfl, x, rfl, hx, fun r H3 hr s3 e4 => ?_⟩
        walk_at "go"
        have hlen : (pre.flatMap bbytes).length ≤ 80000 := by
          have h5 := flat_len pre
          have h6 : pre.length ≤ ns.length := by rw [e]; simp
          omega
        refine e_ext (s3 _ _ e3) e4 (sz_of (by rw [List.length_map, List.length_map]; have := bbytes_len x; omega)) ?_
        refine ⟨⟨some (.int (pre.length : Nat)), some (.int x), rfl⟩, Same.mut ((s1.trans s2).trans s3) hD, ?_⟩
        rw [upd_same, List.flatMap_append, List.map_append]
        simp
      · obtain ⟨⟨v2, v3, rfl⟩, s1, e1⟩ := q
        walk_at "go"
        exact k D H1 hD s1 e1
    · refine .inr ?_
      walk_at "go"
      refine ⟨p, ns.map V.int, rfl, same_tup sD hS, ?_⟩
      refine for_enumIT (ns := ns) (fun pre σ H1 => (∃ v2 v3, σ = [some (.ref p), some (.ref D), v2, v3]) ∧ Same H H1 ∧ H1 D = some (.lst ((pre.flatMap bbytes).map V.int))) ⟨⟨_, _, rfl⟩, sD, upd_same⟩ (fun pre σ H1 q => same_tup q.2.1 hS) (fun pre x post t σ H1 e q ht => ?_) (fun σ H1 q => ?_)
      · obtain ⟨⟨v2, v3, rfl⟩, s1, e1⟩ := q
        have hx : 0 < bsize x := hb x (by rw [e]; simp)
        have s2 : Same H1 (upd H1 t (.tup [.int (pre.length : Nat), .int x])) := same_new ht
        walk_at "go"
        refine ⟨_, rfl, x, rfl, ?_⟩
        walk_at "go"
        refine i_nd (fun h1 => absurd hx h1) (fun h1 => ?_)
        walk_at "go"
        have e3 := s2 _ _ e1
        refine ⟨.inl ⟨rfl, _, SqL.of e3⟩, ?_⟩
        walk_at "go"
        refine ⟨_, rfl, x, rfl, hx, fun r H3 hr s3 e4 => ?_⟩
        walk_at "go"
        have hlen : (pre.flatMap bbytes).length ≤ 80000 := by
          have h5 := flat_len pre
          have h6 : pre.length ≤ ns.length := by rw [e]; simp
          omega
        refine e_ext (s3 _ _ e3) e4 (sz_of (by rw [List.length_map, List.length_map]; have := bbytes_len x; omega)) ?_
        refine ⟨⟨some (.int (pre.length : Nat)), some (.int x), rfl⟩, Same.mut ((s1.trans s2).trans s3) hD, ?_⟩
        rw [upd_same, List.flatMap_append, List.map_append]
        simp
      · obtain ⟨⟨v2, v3, rfl⟩, s1, e1⟩ := q
        walk_at "go"
        exact k D H1 hD s1 e1
theorem ok_count_of (T : Txt K mg)   {f : Addr} {fd : FuncData} (F : FnP K "count_of" s_count_of f fd) : FnOk P w K mg base CX0 1 f fd ["vector", "device"] (sp_count_of K) := by
  refine F.ok sc_count_of (fun vs H Q E h => ?_) (fun cdv A outer s H vs Q E hr h => ?_)
  · obtain ⟨_, _, rfl, _⟩ := h
    rfl
  · have S := sc_count_of
    refine ⟨_, PSs.nox (pss_cons (ps_for PassesOwn.never rfl (pi_tup (pv 0)) (pg_tup rfl (pgs_cons (pg_name (i := 2) S.nd rfl (by first | exact .inl rfl | exact .inr rfl | exact .inr (.inl rfl) | exact .inr (.inr rfl))) (pgs_cons (pg_name (i := 3) S.nd rfl (by first | exact .inl rfl | exact .inr rfl | exact .inr (.inl rfl) | exact .inr (.inr rfl))) pgs_nil)))
    (pss_one (ps_if (pt_cmpR op_eq (pv 2) (pv 1) (nomark _))
      (pss_one (ps_ret (pv 3)))
      pss_nil)))
    (pss_one (ps_ret pe_int))), ?_⟩
    try dsimp only [cxOf, Cx.nox]
    obtain ⟨_, _, rfl, a, v, d, rfl, rfl, ⟨ps, hS, hP⟩, k⟩ := h
    walk_at "go"
    refine for_vec hS hP (fun pre σ H1 => (∃ v2 v3, σ = [some (.ref a), some (.int d), v2, v3]) ∧ H1 = H ∧ ∀ c ∈ pre, ¬ c.1 = d) ⟨⟨_, _, rfl⟩, rfl, fun c hc => by cases hc⟩ (fun pre σ H1 q => by rw [q.2.1]; exact Same.refl H) (fun pre c post T σ H1 e q hT => ?_) (fun σ H1 q => ?_)
    · obtain ⟨⟨v2, v3, rfl⟩, rfl, q⟩ := q
      walk_at "go"
      refine i_d (fun h1 => ?_) (fun h1 => ?_)
      · walk_at "go"
        rw [e, cnt_app_out q] at k
        have e2 : cnt (c :: post) d = c.2 := by show (if c.1 = d then _ else _) = _; rw [if_pos h1]
        rw [e2] at k
        exact k
      · walk_at "go"
        exact ⟨⟨_, _, rfl⟩, rfl, fun x hx => by
          rcases List.mem_append.mp hx with hx | hx
          · exact q x hx
          · rw [List.mem_singleton.mp hx]; exact h1⟩
    · obtain ⟨⟨v2, v3, rfl⟩, rfl, q⟩ := q
      walk_at "go"
      have e2 : cnt v d = 0 := by
        rw [← List.append_nil v, cnt_app_out q]; rfl
      rw [e2] at k
      exact k
theorem ok_join (T : Txt K mg)  (c_vector : Cal P w K mg base 1 "_vector" (sp_vector K)) {f : Addr} {fd : FuncData} (F : FnP K "join" s_join f fd) : FnOk P w K mg base CX0 2 f fd ["first", "second"] (sp_join K) := by
  refine F.ok sc_join (fun vs H Q E h => ?_) (fun cdv A outer s H vs Q E hr h => ?_)
  · obtain ⟨_, _, rfl, _⟩ := h
    rfl
  · have S := sc_join
    refine ⟨_, PSs.nox (pss_cons (ps_set (i := 2) S.nd rfl (by first | exact .inl rfl | exact .inr rfl | exact .inr (.inl rfl) | exact .inr (.inr rfl)) (pe_callTy (call_dictPT rfl) (by rfl) T.f_dict (by first | rfl | decide +kernel) (pa_cons (pv 0) pa_nil)))
    (pss_cons (ps_for PassesOwn.never rfl (pi_tup (pv 1)) (pg_tup rfl (pgs_cons (pg_name (i := 3) S.nd rfl (by first | exact .inl rfl | exact .inr rfl | exact .inr (.inl rfl) | exact .inr (.inr rfl))) (pgs_cons (pg_name (i := 4) S.nd rfl (by first | exact .inl rfl | exact .inr rfl | exact .inr (.inl rfl) | exact .inr (.inr rfl))) pgs_nil)))
    (pss_one (ps_dput (hu_of hr) (pv 2) (pv 3) (pe_callB (call_max2 rfl) (by rfl) T.f_max (by first | rfl | decide +kernel) (pa_cons (pv 4) (pa_cons (pe_dget2 (hu_of hr) (pv 2) (pv 3) pe_int ⟨by rfl, by rfl, by rfl, by rfl⟩) pa_nil))) rfl)))
    (pss_one (ps_ret (pe_c c_vector hr (by decide) (by rfl) (pa_cons (pv 2) pa_nil)))))), ?_⟩
    try dsimp only [cxOf, Cx.nox]
    obtain ⟨_, _, rfl, a, b, f, g, rfl, rfl, hf, hg, ⟨ps, hS, hP⟩, ⟨qs, hT, hR⟩, k⟩ := h
    walk_at "go"
    obtain ⟨m0, em, gm, lm, cm⟩ := dict_made hf
    refine ⟨a, ps, kvl (made f), rfl, hS, prs_kvl hP, fun D hD => ?_⟩
    rw [em]
    have sD := same_new (o := .dK (kvl m0)) hD
    have hT0 := same_tup sD hT
    walk_at "go"
    refine for_vec hT hR (fun pre σ H1 => (∃ v3 v4, σ = [some (.ref a), some (.ref b), some (.ref D), v3, v4]) ∧ Same H H1 ∧ ∃ m, H1 D = some (.dK (kvl m)) ∧ Good m ∧ m.length ≤ 9 + pre.length ∧ ∀ k : Nat, k < 9 → cnt m (((k : Nat) : Int) + 1) = told mx pre (((k : Nat) : Int) + 1) (f k)) ⟨⟨_, _, rfl⟩, sD, m0, upd_same, gm, by simpa using lm, fun k hk => cm k hk⟩ (fun pre σ H1 q => q.2.1) (fun pre c post T σ H1 e q hT => ?_) (fun σ H1 q => ?_)
    · obtain ⟨⟨v3, v4, rfl⟩, s1, m, e1, g1, l1, c1⟩ := q
      have hc : c ∈ made g := by rw [e]; simp
      obtain ⟨h1, h9, h0⟩ := made_rg c hc
      have lp : pre.length ≤ 9 := by
        have := made_len g
        rw [e, List.length_append, List.length_cons] at this
        omega
      walk_at "go"
      refine ⟨D, rfl, .inl ⟨_, .inl e1⟩, ?_⟩
      walk_at "go"
      refine dg_or e1 fun o eo => ?_
      rw [eo]
      walk_at "go"
      refine ⟨_, _, rfl, ?_⟩
      walk_at "go"
      refine dp_put e1 (by omega) ?_
      refine ⟨⟨_, _, rfl⟩, Same.mut s1 hD, dput m c.1 (mx c.2 (cnt m c.1)), upd_same, good_dput g1 h1 h9 ?_, ?_, fun k hk => ?_⟩
      · unfold mx; split <;> omega
      · have := dput_len m c.1 (mx c.2 (cnt m c.1))
        rw [List.length_append]
        simp
        omega
      · rw [cnt_dput, told_app, told_one]
        by_cases hk2 : c.1 = ((k : Nat) : Int) + 1
        · rw [if_pos hk2, if_pos hk2, hk2, c1 k hk]
        · rw [if_neg hk2, if_neg hk2, c1 k hk]
    · obtain ⟨⟨v3, v4, rfl⟩, s1, m, e1, g1, l1, c1⟩ := q
      have := made_len g
      walk_at "go"
      refine ⟨_, rfl, D, m, rfl, e1, g1, by omega, fun r H' s2 hv => ?_⟩
      walk_at "go"
      refine k r H' (s1.trans s2) ?_
      rw [made_congr (g := fun k => cnt m (((k : Nat) : Int) + 1)) fun k hk => by rw [c1 k hk, max_made hf hk]]
      exact hv
theorem ok_vector (T : Txt K mg)   {f : Addr} {fd : FuncData} (F : FnP K "_vector" s_vector f fd) : FnOk P w K mg base CX0 1 f fd ["counts"] (sp_vector K) := by
  refine F.ok sc_vector (fun vs H Q E h => ?_) (fun cdv A outer s H vs Q E hr h => ?_)
  · obtain ⟨_, rfl, _⟩ := h
    rfl
  · have S := sc_vector
    refine ⟨_, PSs.nox (pss_one (ps_ret (pe_callTy call_tupleF (by rfl) T.f_tuple (by first | rfl | decide +kernel) (pa_cons (pe_lc (own := [("device", 1)]) (g := gName 1) (tt := tYes) rfl S.nd (pi_list (pe_callB (call_sortedDI rfl) (by rfl) T.f_sorted (by first | rfl | decide +kernel) (pa_cons (pv 0) pa_nil))) (blkOk_by (N := N_vector) (sc := defScope s_vector) (by decide +kernel)) (fun _ _ _ _ _ => (pg_name (i := 1) S.nd rfl (by first | exact .inl rfl | exact .inr rfl | exact .inr (.inl rfl) | exact .inr (.inr rfl)))) (fun _ _ _ _ _ => pts_nil) (fun _ _ _ _ _ => (pe_tup (pa_cons (pv 1) (pa_cons (pe_dget (hu_of hr) (pv 0) (pv 1) (fun _ _ => rfl)) pa_nil))))) pa_nil)))), ?_⟩
    try dsimp only [cxOf, Cx.nox]
    obtain ⟨_, rfl, D, m, rfl, hD, hm, hl, k⟩ := h
    walk_at "go"
    have em : (kvl m).map (·.1) = (m.map (·.1)).map Sum.inl := by unfold kvl; rw [List.map_map, List.map_map]; rfl
    refine ⟨D, kvl m, m.map (·.1), rfl, .inl hD, em, by rw [List.length_map]; omega, fun ys p hp hs hpn => ?_⟩
    have s1 := same_new (o := .lst (ys.map V.int)) hpn
    have yl : ys.length = m.length := by rw [hp.length_eq, List.length_map]
    have p1 : (upd H p (.lst (ys.map V.int))) p = some (.lst (ys.map V.int)) := upd_same
    generalize upd H p (.lst (ys.map V.int)) = H1 at *
    have d1 := s1 _ _ hD
    walk_at "go"
    intro E hE
    refine lc_list (xs := ys.map V.int) (fun i H2 => Same H1 H2 ∧ ∃ ps : List Addr, H2 E = some (.lst (ps.map V.ref)) ∧ ps.length = i ∧ Prx H2 ps ((ys.take i).map fun y => (y, cnt m y))) ⟨same_new hE, [], upd_same, rfl, .nil⟩ (fun i H2 _ q => SqL.of (q.1 _ _ p1)) (fun i x H2 hx q => ?_) (fun H2 q => ?_)
    · obtain ⟨s2, ps, e2, l2, q2⟩ := q
      rw [List.getElem?_map] at hx
      obtain ⟨y, hy, rfl⟩ := Option.map_eq_some_iff.mp hx
      have hm2 : ∃ c ∈ m, c.1 = y := by
        have := hp.mem_iff.mp (List.mem_of_getElem? hy)
        exact List.mem_map.mp this
      have hi := (List.getElem?_eq_some_iff.mp hy).1
      walk_at "go"
      refine dg_some (s2 _ _ d1) hm2 ?_
      walk_at "go"
      rename_i t ht
      have s3 := same_new (o := .tup [.int y, .int (cnt m y)]) ht
      refine ⟨_, s3 _ _ e2, Nat.lt_of_le_of_lt (by rw [List.length_map]; omega : _ ≤ 1000000) (by decide), Same.mut (s2.trans s3) hE, ps ++ [t], by rw [upd_same, List.map_append]; rfl, by simp [l2], ?_⟩
      rw [List.take_add_one, hy]
      show Prx _ (ps ++ [t]) ((ys.take i ++ [y]).map _)
      rw [List.map_append]
      exact paired_snoc ((q2.same s3).upd (s3 _ _ e2)) (by
        have n : t ≠ E := fun z => by
          rw [z, e2] at ht
          cases ht
        show (upd _ E _) t = _
        rw [upd_ne n]; exact upd_same)
    · obtain ⟨s2, ps, e2, l2, q2⟩ := q
      walk_at "go"
      intro l H' hl2 s3 hp2 _
      refine k l H' ((s1.trans s2).trans s3) ⟨ps, hp2, ?_⟩
      rw [← vector_made hm hp hs]
      rw [List.length_map, List.take_length] at q2
      exact (q2.same s3).prs
theorem ok_counts_of (T : Txt K mg)  (c_count_of : Cal P w K mg base 1 "count_of" (sp_count_of K)) {f : Addr} {fd : FuncData} (F : FnP K "counts_of" s_counts_of f fd) : FnOk P w K mg base CX0 2 f fd ["vector"] (sp_counts_of K) := by
  refine F.ok sc_counts_of (fun vs H Q E h => ?_) (fun cdv A outer s H vs Q E hr h => ?_)
  · obtain ⟨_, rfl, _⟩ := h
    rfl
  · have S := sc_counts_of
    refine ⟨_, PSs.nox (pss_one (ps_ret (pe_callTy call_tupleF (by rfl) T.f_tuple (by first | rfl | decide +kernel) (pa_cons (pe_lc (own := [("device", 1)]) (g := gName 1) (tt := tYes) rfl S.nd (pi_range2 (by rfl) T.f_range (pa_cons pe_int (pa_cons pe_int pa_nil))) (blkOk_by (N := N_counts_of) (sc := defScope s_counts_of) (by decide +kernel)) (fun _ _ _ _ _ => (pg_name (i := 1) S.nd rfl (by first | exact .inl rfl | exact .inr rfl | exact .inr (.inl rfl) | exact .inr (.inr rfl)))) (fun _ _ _ _ _ => pts_nil) (fun _ _ _ _ _ => (pe_c c_count_of hr (by decide) (by rfl) (pa_cons (pv 0) (pa_cons (pv 1) pa_nil))))) pa_nil)))), ?_⟩
    try dsimp only [cxOf, Cx.nox]
    obtain ⟨_, rfl, a, f, rfl, hf, hv, k⟩ := h
    walk_at "go"
    intro D hD
    refine lc_map_rng hD (by decide) (fun i => .int (f i)) (fun i H2 C E hi s2 hC => ?_) (fun H2 s2 e2 => ?_)
    · have hi : i < 9 := hi
      walk_at "go"
      refine ⟨_, _, rfl, a, made f, _, rfl, rfl, hv.same s2, ?_⟩
      rw [show (1 + (i : Int)) = ((i : Nat) : Int) + 1 from by omega, cnt_made hf hi]
      exact hC H2 (Same.refl H2)
    · walk_at "go"
      intro l H' hl s3 hp _
      refine k l H' (s2.trans s3) ?_
      have e : (row9 f).map V.int = (List.range (10 - 1 : Int).toNat).map fun i => V.int (f i) := by unfold row9; rw [List.map_map]; rfl
      rw [e]
      exact hp.seq
theorem ok_Entry___init__ (T : Txt K mg)   {f : Addr} {fd : FuncData} (F : FunD K "__init__" "Entry.__init__" (defArgs s_Entry___init__) (defBody s_Entry___init__) (defScope s_Entry___init__) [] [] f fd) : FnOk P w K mg base CX0 1 f fd ["self", "name", "vector", "height", "maker", "deleted", "time", "blocks"] (sp_Entry___init__ K) := by
  refine F.ok sc_Entry___init__ (fun vs H Q E h => ?_) (fun cdv A outer s H vs Q E hr h => ?_)
  · obtain ⟨_, _, _, _, _, _, _, _, rfl, _⟩ := h
    rfl
  · have S := sc_Entry___init__
    refine ⟨_, PSs.nox (pss_cons (ps_fld (pv 0) (pv 1) rfl)
    (pss_cons (ps_fld (pv 0) (pv 2) rfl)
    (pss_cons (ps_fld (pv 0) (pv 3) rfl)
    (pss_cons (ps_fld (pv 0) (pv 4) rfl)
    (pss_cons (ps_fld (pv 0) (pv 5) rfl)
    (pss_cons (ps_fld (pv 0) (pv 6) rfl)
    (pss_one (ps_fld (pv 0) (pv 7) rfl)))))))), ?_⟩
    try dsimp only [cxOf, Cx.nox]
    obtain ⟨_, _, _, _, _, _, _, _, rfl, a, dx, rfl, ha, k⟩ := h
    walk_at "go"
    refine ⟨a, _, dx, _, rfl, ha, T.cl_Entry, T.no_Entry_name, lt_put (by decide), ?_⟩
    walk_at "go"
    refine ⟨a, _, dx, _, rfl, upd_same, T.cl_Entry, T.no_Entry_vector, lt_put (Nat.le_trans (len_put (n := 0) (Nat.le_refl 0)) (by decide)), ?_⟩
    walk_at "go"
    refine ⟨a, _, dx, _, rfl, upd_same, T.cl_Entry, T.no_Entry_height, lt_put (Nat.le_trans (len_put (len_put (n := 0) (Nat.le_refl 0))) (by decide)), ?_⟩
    walk_at "go"
    refine ⟨a, _, dx, _, rfl, upd_same, T.cl_Entry, T.no_Entry_maker, lt_put (Nat.le_trans (len_put (len_put (len_put (n := 0) (Nat.le_refl 0)))) (by decide)), ?_⟩
    walk_at "go"
    refine ⟨a, _, dx, _, rfl, upd_same, T.cl_Entry, T.no_Entry_deleted, lt_put (Nat.le_trans (len_put (len_put (len_put (len_put (n := 0) (Nat.le_refl 0))))) (by decide)), ?_⟩
    walk_at "go"
    refine ⟨a, _, dx, _, rfl, upd_same, T.cl_Entry, T.no_Entry_time, lt_put (Nat.le_trans (len_put (len_put (len_put (len_put (len_put (n := 0) (Nat.le_refl 0)))))) (by decide)), ?_⟩
    walk_at "go"
    refine ⟨a, _, dx, _, rfl, upd_same, T.cl_Entry, T.no_Entry_blocks, lt_put (Nat.le_trans (len_put (len_put (len_put (len_put (len_put (len_put (n := 0) (Nat.le_refl 0))))))) (by decide)), ?_⟩
    simp only [upd_upd]
    exact k
theorem ok_Entry___eq__ (T : Txt K mg)   {f : Addr} {fd : FuncData} (F : FunD K "__eq__" "Entry.__eq__" (defArgs s_Entry___eq__) (defBody s_Entry___eq__) (defScope s_Entry___eq__) [] [] f fd) : FnOk P w K mg base CX0 1 f fd ["self", "other"] (sp_Entry___eq__ K) := by
  refine F.ok sc_Entry___eq__ (fun vs H Q E h => ?_) (fun cdv A outer s H vs Q E hr h => ?_)
  · obtain ⟨_, _, rfl, _⟩ := h
    rfl
  · have S := sc_Entry___eq__
    refine ⟨_, PSs.nox (pss_one (ps_ret (pe_and (pe_callB call_isi (by rfl) T.f_isinstance (by first | rfl | decide +kernel) (pa_cons (pv 1) (pa_cons (pe_glob (v := V.ref (He.ga K "Entry")) (by rfl) T.g_Entry rfl) pa_nil))) (pe_and (pe_cmpR op_eq (pe_fld (pv 0) rfl) (pe_fld (pv 1) rfl) (nomark _)) (pe_and (pe_cmpR (op_eqP hr.units) (pe_fld (pv 0) rfl) (pe_fld (pv 1) rfl) (nomark _)) (pe_and (pe_cmpR op_eq (pe_fld (pv 0) rfl) (pe_fld (pv 1) rfl) (nomark _)) (pe_and (pe_cmpR (op_eqP hr.units) (pe_fld (pv 0) rfl) (pe_fld (pv 1) rfl) (nomark _)) (pe_and (pe_cmpR op_eq (pe_fld (pv 0) rfl) (pe_fld (pv 1) rfl) (nomark _)) (pe_and (pe_cmpR op_eq (pe_fld (pv 0) rfl) (pe_fld (pv 1) rfl) (nomark _)) (pe_one (pe_cmpR (op_eqP hr.units) (pe_fld (pv 0) rfl) (pe_fld (pv 1) rfl) (nomark _)))))))))))), ?_⟩
    try dsimp only [cxOf, Cx.nox]
    have t : ET K := ⟨T.cl_Entry, T.no_Entry_name, T.no_Entry_vector, T.no_Entry_height, T.no_Entry_maker, T.no_Entry_deleted, T.no_Entry_time, T.no_Entry_blocks⟩
    obtain ⟨_, _, rfl, a, p, e, rfl, hE, hy⟩ := h
    have ct := T.ct_Entry
    rcases hy with ⟨b, p2, g, rfl, hG, k⟩ | ⟨l, ys, rfl, hp, k⟩
    · obtain ⟨dy, _, _, _, gs, hb, _⟩ := id hG
      unfold enEq at k
      walk_at "go"
      refine ⟨.ref b, .ref _, _, _, true, rfl, .own _, .base (.ins hb T.cl_Entry ct.ha ct.hn ct.htk ct.hm), ct.own, ?_⟩
      walk_at "go"
      generalize decide (e.nm = g.nm) = d1 at k ⊢
      cases d1
      · walk_at "go"
        exact k
      walk_at "go"
      rename_i v1 w1 v2 w2
      refine e_eqPVV w1.1 w2.1 ?_
      walk_at "go"
      generalize decide (made e.f = made g.f) = d2 at k ⊢
      cases d2
      · walk_at "go"
        exact k
      walk_at "go"
      generalize decide (e.ht = g.ht) = d3 at k ⊢
      cases d3
      · walk_at "go"
        exact k
      walk_at "go"
      rename_i v3 w3 v4 w4
      have e4 : decide (e.mr = g.mr) = decide ([e.mr.1, e.mr.2] = [g.mr.1, g.mr.2]) := decide_eq_decide.mpr ⟨fun z => by rw [z], fun z => by
        injection z with z1 z2
        injection z2 with z2 z3
        exact Prod.ext z1 z2⟩
      rw [e4] at k
      refine e_eqPT (xs := [e.mr.1, e.mr.2]) (ys := [g.mr.1, g.mr.2]) w3 w4 ?_
      walk_at "go"
      generalize decide ([e.mr.1, e.mr.2] = [g.mr.1, g.mr.2]) = d4 at k ⊢
      cases d4
      · walk_at "go"
        exact k
      walk_at "go"
      generalize (e.dl == g.dl) = d5 at k ⊢
      cases d5
      · walk_at "go"
        exact k
      walk_at "go"
      generalize decide (e.tm = g.tm) = d6 at k ⊢
      cases d6
      · walk_at "go"
        exact k
      walk_at "go"
      rename_i v5 w5 v6 w6
      refine e_eqPT w5 w6 ?_
      walk_at "go"
      exact k
    · walk_at "go"
      refine ⟨.ref l, .ref _, _, _, false, rfl, .own _, .base (.lst hp), T.cq_Entry.lst, ?_⟩
      walk_at "go"
      exact k
theorem ok_alike (T : Txt K mg)   {f : Addr} {fd : FuncData} (F : FnP K "alike" s_alike f fd) : FnOk P w K mg base CX0 1 f fd ["first", "second"] (sp_alike K) := by
  refine F.ok sc_alike (fun vs H Q E h => ?_) (fun cdv A outer s H vs Q E hr h => ?_)
  · obtain ⟨_, _, rfl, _⟩ := h
    rfl
  · have S := sc_alike
    refine ⟨_, PSs.nox (pss_one (ps_ret (pe_and (pe_cmpR op_eq (pe_fld (pv 0) rfl) (pe_fld (pv 1) rfl) (nomark _)) (pe_one (pe_cmpR (op_eqP hr.units) (pe_fld (pv 0) rfl) (pe_fld (pv 1) rfl) (nomark _)))))), ?_⟩
    try dsimp only [cxOf, Cx.nox]
    have t : ET K := ⟨T.cl_Entry, T.no_Entry_name, T.no_Entry_vector, T.no_Entry_height, T.no_Entry_maker, T.no_Entry_deleted, T.no_Entry_time, T.no_Entry_blocks⟩
    obtain ⟨_, _, rfl, a, b, p, p2, e, g, rfl, rfl, hE, hG, k⟩ := h
    unfold alk at k
    walk_at "go"
    generalize (e.dl == g.dl) = d1 at k ⊢
    cases d1
    · walk_at "go"
      exact k
    walk_at "go"
    rename_i v1 w1 v2 w2
    refine e_eqPT w1 w2 ?_
    walk_at "go"
    exact k
theorem ok_key_of (T : Txt K mg)  (c_counts_of : Cal P w K mg base 2 "counts_of" (sp_counts_of K)) {f : Addr} {fd : FuncData} (F : FnP K "key_of" s_key_of f fd) : FnOk P w K mg base CX0 3 f fd ["entry"] (sp_key_of K) := by
  refine F.ok sc_key_of (fun vs H Q E h => ?_) (fun cdv A outer s H vs Q E hr h => ?_)
  · obtain ⟨_, rfl, _⟩ := h
    rfl
  · have S := sc_key_of
    refine ⟨_, PSs.nox (pss_cons (ps_asg (pe_fld (pv 0) rfl) (pg_tup rfl (pgs_cons (pg_name (i := 1) S.nd rfl (by first | exact .inl rfl | exact .inr rfl | exact .inr (.inl rfl) | exact .inr (.inr rfl))) (pgs_cons (pg_name (i := 2) S.nd rfl (by first | exact .inl rfl | exact .inr rfl | exact .inr (.inl rfl) | exact .inr (.inr rfl))) pgs_nil))))
    (pss_cons (ps_set (i := 3) S.nd rfl (by first | exact .inl rfl | exact .inr rfl | exact .inr (.inl rfl) | exact .inr (.inr rfl)) (pe_ifExp (pt_val (pe_fld (pv 0) rfl)) pe_int pe_int))
    (pss_one (ps_ret (pe_tup (pa_cons (pe_fld (pv 0) rfl) (pa_cons (pe_fld (pv 0) rfl) (pa_cons (pv 3) (pa_cons (pe_un un_neg (pv 1)) (pa_cons (pe_un un_neg (pv 2)) (pa_cons (pe_c c_counts_of hr (by decide) (by rfl) (pa_cons (pe_fld (pv 0) rfl) pa_nil)) pa_nil))))))))))), ?_⟩
    try dsimp only [cxOf, Cx.nox]
    have t : ET K := ⟨T.cl_Entry, T.no_Entry_name, T.no_Entry_vector, T.no_Entry_height, T.no_Entry_maker, T.no_Entry_deleted, T.no_Entry_time, T.no_Entry_blocks⟩
    obtain ⟨_, rfl, a, p, e, rfl, hE, hf, k⟩ := h
    walk_at "go"
    refine i_b (fun h1 => ?_) (fun h1 => ?_)
    all_goals
      walk_at "go"
      rename_i v1 w1 v2 w2
      refine ⟨_, rfl, v2, e.f, rfl, hf, w2.1, fun c H1 s1 hc => ?_⟩
      walk_at "go"
      rename_i r hr
      have s2 := same_new (o := .tup [.int e.ht, .int e.tm, .int (if e.dl = true then 0 else 1), .int (-e.mr.1), .int (-e.mr.2), .ref c]) hr
      rw [h1] at s2
      refine k r _ (s1.trans s2) ⟨c, ?_, same_tup s2 hc⟩
      rw [h1]
      exact SqT.of upd_same
theorem ok_winner (T : Txt K mg) (c_Entry : C8.Mak P w K mg base 1 "Entry" (He.ga K "Entry") (sp_Entry___init__ K) [])  (c_key_of : Cal P w K mg base 3 "key_of" (sp_key_of K)) (c_alike : Cal P w K mg base 1 "alike" (sp_alike K)) (c_join : Cal P w K mg base 2 "join" (sp_join K)) {f : Addr} {fd : FuncData} (F : FnP K "winner" s_winner f fd) : FnOk P w K mg base CX0 5 f fd ["entries"] (sp_winner K) := by
  refine F.ok sc_winner (fun vs H Q E h => ?_) (fun cdv A outer s H vs Q E hr h => ?_)
  · obtain ⟨_, rfl, _⟩ := h
    rfl
  · have S := sc_winner
    refine ⟨_, PSs.nox (pss_cons (ps_set (i := 1) S.nd rfl (by first | exact .inl rfl | exact .inr rfl | exact .inr (.inl rfl) | exact .inr (.inr rfl)) (pe_maxF c_key_of hr (by decide) (by rfl) T.f_max (by rfl) (pa_cons (pv 0) pa_nil)))
    (pss_cons (ps_set (i := 2) S.nd rfl (by first | exact .inl rfl | exact .inr rfl | exact .inr (.inl rfl) | exact .inr (.inr rfl)) (pe_fld (pv 1) rfl))
    (pss_cons (ps_for PassesOwn.never rfl (pi_list (pv 0)) (pg_name (i := 3) S.nd rfl (by first | exact .inl rfl | exact .inr rfl | exact .inr (.inl rfl) | exact .inr (.inr rfl)))
    (pss_one (ps_if (pt_val (pe_c c_alike hr (by decide) (by rfl) (pa_cons (pv 3) (pa_cons (pv 1) pa_nil))))
      (pss_one (ps_set (i := 2) S.nd rfl (by first | exact .inl rfl | exact .inr rfl | exact .inr (.inl rfl) | exact .inr (.inr rfl)) (pe_c c_join hr (by decide) (by rfl) (pa_cons (pv 2) (pa_cons (pe_fld (pv 3) rfl) pa_nil)))))
      pss_nil)))
    (pss_one (ps_ret (C8.pe_mk c_Entry hr (by decide) (by rfl) (pa_cons (pe_fld (pv 1) rfl) (pa_cons (pv 2) (pa_cons (pe_fld (pv 1) rfl) (pa_cons (pe_fld (pv 1) rfl) (pa_cons (pe_fld (pv 1) rfl) (pa_cons (pe_fld (pv 1) rfl) (pa_cons (pe_fld (pv 1) rfl) pa_nil))))))))))))), ?_⟩
    try dsimp only [cxOf, Cx.nox]
    have t : ET K := ⟨T.cl_Entry, T.no_Entry_name, T.no_Entry_vector, T.no_Entry_height, T.no_Entry_maker, T.no_Entry_deleted, T.no_Entry_time, T.no_Entry_blocks⟩
    obtain ⟨_, rfl, a, ps, es, rfl, hS, hP, hN, h0, hl, k⟩ := h
    walk_at "go"
    refine ⟨a, ps, kdL es, fun H' => Same H H', rfl, by rw [paired_len hP]; exact h0, Same.refl H, ⟨fun H' s => s.seq hS, fun i q H' hq s => ?_, fun i j _ _ => kdE_alike _ _, fun i _ => nofun, fun i _ => kdE_depth _⟩, fun H1 b s1 hb => ?_⟩
    · obtain ⟨e, he, hE⟩ := paired_get hP i q hq
      refine ⟨_, rfl, q, true, e, rfl, hE.same s, hN e (List.mem_of_getElem? he), fun r H2 s2 hk => ⟨s.trans s2, fun z d y => dp_same s2 y, ?_⟩⟩
      have e1 : kdL es i = kdE e := by unfold kdL; rw [getD_of he]
      rw [e1]
      exact key_dp hk
    obtain ⟨eb, heb, hE0⟩ := paired_get hP _ b hb
    have e0 : enB es = eb := by
      unfold enB
      rw [← paired_len hP]
      exact getD_of heb
    have hE := hE0.same s1
    have hS1 := s1.seq hS
    have hP1 := ents_same s1 hP
    have hbn := hN eb (List.mem_of_getElem? heb)
    clear hE0 hP hS
    walk_at "go"
    rename_i v0 w0
    refine for_ents hS1 hP1 (fun pre σ H2 => (∃ v v3, σ = [some (.ref a), some (.ref b), some (.ref v), v3] ∧ VecB true K H2 v (made (wf pre eb eb.f))) ∧ Same H1 H2) ⟨⟨v0, _, rfl, w0⟩, Same.refl H1⟩ (fun pre σ H2 q => q.2) (fun pre e post q σ H2 ee hq _ hQ => ?_) (fun σ H2 q => ?_)
    · obtain ⟨⟨v, v3, rfl, hv⟩, s2⟩ := hq
      have hE2 := hE.same s2
      walk_at "go"
      refine ⟨_, _, rfl, q, b, true, true, e, eb, rfl, rfl, hQ, hE2, ?_⟩
      walk_at "go"
      have he : e ∈ es := by rw [ee]; simp
      have step : wf (pre ++ [e]) eb eb.f = if alk e eb = true then fun k => mx (wf pre eb eb.f k) (e.f k) else wf pre eb eb.f := by
        unfold wf
        rw [List.foldl_append]
        rfl
      refine i_b (fun h1 => ?_) (fun h1 => ?_)
      · rw [if_pos h1] at step
        walk_at "go"
        rename_i u hu
        refine ⟨_, _, rfl, v, u, wf pre eb eb.f, e.f, rfl, rfl, wf_nn (fun g hg => hN g (by rw [ee]; simp [hg])) hbn, hN e he, hv.2 rfl, hu.1, fun r H3 s3 hr => ?_⟩
        walk_at "go"
        exact ⟨⟨r, _, rfl, by rw [step]; exact .of hr⟩, s2.trans s3⟩
      · rw [if_neg (by rw [h1]; exact Bool.false_ne_true)] at step
        walk_at "go"
        exact ⟨⟨v, _, rfl, by rw [step]; exact hv⟩, s2⟩
    · obtain ⟨⟨v, v3, rfl, hv⟩, s2⟩ := q
      have hE2 := hE.same s2
      walk_at "go"
      rename_i m hm bb hbb
      refine e_mkE fun r H3 dx hr s3 hi => ?_
      walk_at "go"
      refine k r H3 ((s1.trans s2).trans s3) (ent_made (dx := dx) (v := v) (m := m) (b := bb) (winE es) ?_ ?_ ?_ ?_)
      · unfold winE
        rw [e0]
        exact hi
      · unfold winE
        rw [e0]
        exact hv.same s3
      · unfold winE
        rw [e0]
        exact same_tup s3 hm
      · unfold winE
        rw [e0]
        exact same_tup s3 hbb
theorem ok_root_of (T : Txt K mg)   {f : Addr} {fd : FuncData} (F : FnP K "root_of" s_root_of f fd) : FnOk P w K mg base CX0 1 f fd ["name"] (sp_root_of K) := by
  refine F.ok sc_root_of (fun vs H Q E h => ?_) (fun cdv A outer s H vs Q E hr h => ?_)
  · obtain ⟨_, rfl, _⟩ := h
    rfl
  · have S := sc_root_of
    refine ⟨_, PSs.nox (pss_one (ps_ret (pe_ix ix_tup (pe_partition (pv 0) pe_str) pe_int (fun _ _ => rfl)))), ?_⟩
    try dsimp only [cxOf, Cx.nox]
    obtain ⟨_, rfl, ds, t, rfl, hd, ht, hl, k⟩ := h
    walk_at "go"
    have hz : (nmS ds ++ t).length ≤ sizeLine := Nat.le_trans (by rw [len_app, nmS_len]; omega : _ ≤ 1000) (by decide)
    refine ⟨_, _, rfl, rfl, by decide +kernel, hz, fun p hp => ?_⟩
    rw [part_name hd ht]
    walk_at "go"
    refine e_ixT (SqT.of upd_same) rfl ?_
    exact k _ (same_new hp)
theorem ok_copy_name (T : Txt K mg)  (c_root_of : Cal P w K mg base 1 "root_of" (sp_root_of K)) {f : Addr} {fd : FuncData} (F : FnP K "copy_name" s_copy_name f fd) : FnOk P w K mg base CX0 2 f fd ["entry"] (sp_copy_name K) := by
  refine F.ok sc_copy_name (fun vs H Q E h => ?_) (fun cdv A outer s H vs Q E hr h => ?_)
  · obtain ⟨_, rfl, _⟩ := h
    rfl
  · have S := sc_copy_name
    refine ⟨_, PSs.nox (pss_cons (ps_asg (pe_fld (pv 0) rfl) (pg_tup rfl (pgs_cons (pg_name (i := 1) S.nd rfl (by first | exact .inl rfl | exact .inr rfl | exact .inr (.inl rfl) | exact .inr (.inr rfl))) (pgs_cons (pg_name (i := 2) S.nd rfl (by first | exact .inl rfl | exact .inr rfl | exact .inr (.inl rfl) | exact .inr (.inr rfl))) pgs_nil))))
    (pss_one (ps_ret (pe_joined (.cons (pe_fmt (pe_c c_root_of hr (by decide) (by rfl) (pa_cons (pe_fld (pv 0) rfl) pa_nil))) (.cons pe_str (.cons (pe_fmt (pv 1)) (.cons pe_str (.cons (pe_fmt (pv 2)) .nil))))))))), ?_⟩
    try dsimp only [cxOf, Cx.nox]
    have t : ET K := ⟨T.cl_Entry, T.no_Entry_name, T.no_Entry_vector, T.no_Entry_height, T.no_Entry_maker, T.no_Entry_deleted, T.no_Entry_time, T.no_Entry_blocks⟩
    obtain ⟨_, rfl, a, x, p, rfl, hE, w, k⟩ := h
    have l1 := num_len w.m0.1 w.m1.1
    have l2 := num_len w.m0.2 w.m1.2
    have q1 : ("~" : Str).length = 1 := by decide +kernel
    have q2 : ("-" : Str).length = 1 := by decide +kernel
    have ee : Str.empty ++ nmS x.ds = nmS x.ds := PySem.Str.empty_append _
    have l0 := nmS_len x.ds
    have l27 := w.l2
    walk_at "go"
    refine ⟨_, rfl, x.ds, x.t, rfl, w.d, w.t, by have := w.lt; omega, fun H1 s1 => ?_⟩
    refine .inl ⟨_, rfl, sz_of (by omega), ?_⟩
    refine ⟨_, rfl, sz_of (by rw [ee]; omega), ?_⟩
    rw [ee]
    walk_at "go"
    refine ⟨sz_of (by rw [len_app]; omega), ?_⟩
    walk_at "go"
    refine .inr ⟨_, rfl, lg1 w.m0.1 w.m1.1, ?_⟩
    refine ⟨_, rfl, sz_of (by rw [len_app, len_app]; simp only [Ed.en]; omega), ?_⟩
    walk_at "go"
    refine ⟨sz_of (by rw [len_app, len_app, len_app]; simp only [Ed.en]; omega), ?_⟩
    walk_at "go"
    refine .inr ⟨_, rfl, lg1 w.m0.2 w.m1.2, ?_⟩
    refine ⟨_, rfl, sz_of (by rw [len_app, len_app, len_app, len_app]; simp only [Ed.en]; omega), ?_⟩
    walk_at "go"
    exact k _ H1 s1 rfl
theorem ok_mixed (T : Txt K mg)  (c_number : Cal P w K mg base 1 "_number" (sp_number K)) (c_factor : Cal P w K mg base 1 "factor" (sp_factor K)) (c_turned_digits : Cal P w K mg base 1 "_turned_digits" (sp_turned_digits K)) {f : Addr} {fd : FuncData} (F : FnP K "mixed" s_mixed f fd) : FnOk P w K mg base CX0 2 f fd ["digits", "base", "key"] (sp_mixed K) := by
  refine F.ok sc_mixed (fun vs H Q E h => ?_) (fun cdv A outer s H vs Q E hr h => ?_)
  · obtain ⟨_, _, _, rfl, _⟩ := h
    rfl
  · have S := sc_mixed
    refine ⟨_, PSs.nox (pss_cons (ps_for PassesOwn.never rfl (pi_range3 (by rfl) T.f_range (pa_cons pe_int (pa_cons (pe_callB call_len_seq (by rfl) T.f_len (by first | rfl | decide +kernel) (pa_cons (pv 2) pa_nil)) (pa_cons pe_int pa_nil)))) (pg_name (i := 3) S.nd rfl (by first | exact .inl rfl | exact .inr rfl | exact .inr (.inl rfl) | exact .inr (.inr rfl)))
    (pss_cons (ps_set (i := 4) S.nd rfl (by first | exact .inl rfl | exact .inr rfl | exact .inr (.inl rfl) | exact .inr (.inr rfl)) (pe_op op_add (pe_op op_mul (pe_c c_number hr (by decide) (by rfl) (pa_cons (pv 0) (pa_cons (pv 1) pa_nil))) (pe_c c_factor hr (by decide) (by rfl) (pa_cons (pe_ix ix_tup (pv 2) (pv 3) (fun _ _ => rfl)) (pa_cons (pv 1) pa_nil)))) (pe_ix ix_tup (pv 2) (pe_op op_add (pv 3) pe_int) (fun _ _ => rfl))))
      (pss_one (ps_set (i := 0) S.nd rfl (by first | exact .inl rfl | exact .inr rfl | exact .inr (.inl rfl) | exact .inr (.inr rfl)) (pe_c c_turned_digits hr (by decide) (by rfl) (pa_cons (pv 4) (pa_cons (pv 1) (pa_cons (pe_callB call_len_seq (by rfl) T.f_len (by first | rfl | decide +kernel) (pa_cons (pv 0) pa_nil)) pa_nil))))))))
    (pss_one (ps_ret (pv 0)))), ?_⟩
    try dsimp only [cxOf, Cx.nox]
    obtain ⟨_, _, _, rfl, p, q, n, ds, ks, rfl, rfl, rfl, hS, hT, hn, hk, hd, hl, k⟩ := h
    have hk8 : ks.length = 8 := hk.1
    have hn2 : 0 < n ∧ n < 1000 := by rcases hn with rfl | rfl <;> decide
    walk_at "go"
    rw [List.length_map, hk8]
    refine ⟨_, _, _, 4, rfl, ⟨by decide, by decide, by decide, by decide⟩, ?_⟩
    refine for_rangeC (fun i σ H1 => (∃ (r : Addr) (v3 v4 : Option V), σ = [some (.ref r), some (.int n), some (.ref q), v3, v4] ∧ SqL K H1 r ((mixN n ks ds i).map V.int) ∧ (i = 4 → H r = none ∧ H1 r = some (.lst ((mixN n ks ds i).map V.int)))) ∧ Same H H1) ⟨⟨p, none, none, rfl, hS, fun e => by cases e⟩, Same.refl H⟩ (fun i σ H1 hi z => ?_) (fun σ H1 z => ?_)
    · obtain ⟨⟨r, v3, v4, rfl, hr, _⟩, s1⟩ := z
      obtain ⟨m1, m2⟩ := mixN_ok hn ks hd i
      have a1 : atI (ks.map V.int) (0 + ((i : Nat) : Int) * 2) = some (.int (ks.getD (2 * i) 0)) := key_at hk8 (by omega) (by omega)
      have a2 : atI (ks.map V.int) (0 + ((i : Nat) : Int) * 2 + 1) = some (.int (ks.getD (2 * i + 1) 0)) := key_at hk8 (by omega) (by omega)
      have hf := fac_lt hn (hk.nn (2 * i)) (hk.lt (2 * i))
      walk_at "go"
      refine ⟨_, _, rfl, r, _, n, rfl, rfl, hn, hr, ?_⟩
      walk_at "go"
      refine e_ixT (same_tup s1 hT) a1 ?_
      walk_at "go"
      refine ⟨_, _, rfl, _, n, rfl, rfl, hn, hk.nn _, hk.lt _, fun H2 s2 => ?_⟩
      walk_at "go"
      refine e_ixT (same_tup (s1.trans s2) hT) a2 ?_
      walk_at "go"
      refine ⟨_, _, rfl, .inl (s2.seq hr), ?_⟩
      walk_at "go"
      rw [List.length_map]
      refine ⟨_, _, _, rfl, _, n, _, rfl, rfl, rfl, hn, by omega, fun r2 H3 hr2 s3 e3 => ?_⟩
      walk_at "go"
      refine ⟨⟨r2, _, _, rfl, SqL.of e3, fun _ => ⟨(s1.trans s2).free hr2, e3⟩⟩, (s1.trans s2).trans s3⟩
    · obtain ⟨⟨r, v3, v4, rfl, hr, hf⟩, s1⟩ := z
      obtain ⟨f1, f2⟩ := hf rfl
      walk_at "go"
      exact k r H1 f1 s1 f2
theorem ok_unmixed (T : Txt K mg)  (c_power : Cal P w K mg base 1 "_power" (sp_power K)) (c_number : Cal P w K mg base 1 "_number" (sp_number K)) (c_inverse : Cal P w K mg base 1 "_inverse" (sp_inverse K)) (c_factor : Cal P w K mg base 1 "factor" (sp_factor K)) (c_turned_digits : Cal P w K mg base 1 "_turned_digits" (sp_turned_digits K)) {f : Addr} {fd : FuncData} (F : FnP K "unmixed" s_unmixed f fd) : FnOk P w K mg base CX0 2 f fd ["digits", "base", "key"] (sp_unmixed K) := by
  refine F.ok sc_unmixed (fun vs H Q E h => ?_) (fun cdv A outer s H vs Q E hr h => ?_)
  · obtain ⟨_, _, _, rfl, _⟩ := h
    rfl
  · have S := sc_unmixed
    refine ⟨_, PSs.nox (pss_cons (ps_set (i := 3) S.nd rfl (by first | exact .inl rfl | exact .inr rfl | exact .inr (.inl rfl) | exact .inr (.inr rfl)) (pe_c c_power hr (by decide) (by rfl) (pa_cons (pv 1) (pa_cons (pe_callB call_len_seq (by rfl) T.f_len (by first | rfl | decide +kernel) (pa_cons (pv 0) pa_nil)) pa_nil))))
    (pss_cons (ps_for PassesOwn.never rfl (pi_revR3 (by rfl) T.f_reversed (prg_3 (by rfl) T.f_range (pa_cons pe_int (pa_cons (pe_callB call_len_seq (by rfl) T.f_len (by first | rfl | decide +kernel) (pa_cons (pv 2) pa_nil)) (pa_cons pe_int pa_nil))))) (pg_name (i := 4) S.nd rfl (by first | exact .inl rfl | exact .inr rfl | exact .inr (.inl rfl) | exact .inr (.inr rfl)))
    (pss_cons (ps_set (i := 5) S.nd rfl (by first | exact .inl rfl | exact .inr rfl | exact .inr (.inl rfl) | exact .inr (.inr rfl)) (pe_op op_sub (pe_c c_number hr (by decide) (by rfl) (pa_cons (pe_revL (pv 0)) (pa_cons (pv 1) pa_nil))) (pe_ix ix_tup (pv 2) (pe_op op_add (pv 4) pe_int) (fun _ _ => rfl))))
      (pss_cons (ps_set (i := 5) S.nd rfl (by first | exact .inl rfl | exact .inr rfl | exact .inr (.inl rfl) | exact .inr (.inr rfl)) (pe_op op_mulW (pv 5) (pe_c c_inverse hr (by decide) (by rfl) (pa_cons (pe_c c_factor hr (by decide) (by rfl) (pa_cons (pe_ix ix_tup (pv 2) (pv 4) (fun _ _ => rfl)) (pa_cons (pv 1) pa_nil))) (pa_cons (pv 3) pa_nil)))))
      (pss_one (ps_set (i := 0) S.nd rfl (by first | exact .inl rfl | exact .inr rfl | exact .inr (.inl rfl) | exact .inr (.inr rfl)) (pe_revL (pe_c c_turned_digits hr (by decide) (by rfl) (pa_cons (pv 5) (pa_cons (pv 1) (pa_cons (pe_callB call_len_seq (by rfl) T.f_len (by first | rfl | decide +kernel) (pa_cons (pv 0) pa_nil)) pa_nil))))))))))
    (pss_one (ps_ret (pv 0))))), ?_⟩
    try dsimp only [cxOf, Cx.nox]
    obtain ⟨_, _, _, rfl, p, q, n, ds, ks, rfl, rfl, rfl, hS, hT, hn, hk, hd, hl, hl1, k⟩ := h
    have hk8 : ks.length = 8 := hk.1
    have hn2 : 0 < n ∧ n < 1000 := by rcases hn with rfl | rfl <;> decide
    obtain ⟨w1, w2⟩ := pow_bd hn hl hl1
    walk_at "go"
    rw [List.length_map]
    refine ⟨_, _, rfl, n, ds.length, rfl, rfl, hn, by omega, ?_⟩
    walk_at "go"
    rw [List.length_map, hk8]
    refine ⟨_, _, _, 4, rfl, ⟨by decide, by decide, by decide, by decide⟩, by decide, ?_⟩
    refine for_rangeC (fun i σ H1 => (∃ (r : Addr) (cur : List Int) (v4 v5 : Option V), σ = [some (.ref r), some (.int n), some (.ref q), some (.int (n ^ ds.length)), v4, v5] ∧ isD n cur ∧ cur.length = ds.length ∧ mixF n ks i cur = ds ∧ SqL K H1 r (cur.map V.int) ∧ (i = 4 → H r = none ∧ H1 r = some (.lst (cur.map V.int)))) ∧ Same H H1) ⟨⟨p, ds, none, none, rfl, hd, rfl, rfl, hS, fun e => by cases e⟩, Same.refl H⟩ (fun i σ H1 hi z => ?_) (fun σ H1 z => ?_)
    · obtain ⟨⟨r, cur, v4, v5, rfl, c1, c2, c3, hr, _⟩, s1⟩ := z
      have a1 : atI (ks.map V.int) (0 + (((4 : Nat) : Int) - 1) * 2 + ((i : Nat) : Int) * -2) = some (.int (ks.getD (2 * (3 - i)) 0)) := key_at hk8 (by omega) (by omega)
      have a2 : atI (ks.map V.int) (0 + (((4 : Nat) : Int) - 1) * 2 + ((i : Nat) : Int) * -2 + 1) = some (.int (ks.getD (2 * (3 - i) + 1) 0)) := key_at hk8 (by omega) (by omega)
      have hf := fac_cop hn (hk.nn (2 * (3 - i)))
      have hg := hf.2 ds.length
      have k0 := hk.nn (2 * (3 - i) + 1)
      have k1 := hk.lt (2 * (3 - i) + 1)
      walk_at "go"
      refine ⟨_, _, rfl, hr, fun r1 hr1 => ?_⟩
      rw [← List.map_reverse]
      have s2 := same_new (o := .lst (cur.reverse.map V.int)) hr1
      have e2 : (upd H1 r1 (.lst (cur.reverse.map V.int))) r1 = some (.lst (cur.reverse.map V.int)) := upd_same
      generalize upd H1 r1 (.lst (cur.reverse.map V.int)) = H2 at *
      walk_at "go"
      refine ⟨_, _, rfl, r1, _, n, rfl, rfl, hn, SqL.of e2, ?_⟩
      walk_at "go"
      refine e_ixT (same_tup (s1.trans s2) hT) a2 ?_
      walk_at "go"
      refine e_ixT (same_tup (s1.trans s2) hT) a1 ?_
      walk_at "go"
      refine ⟨_, _, rfl, _, n, rfl, rfl, hn, hk.nn _, hk.lt _, fun H3 s3 => ?_⟩
      walk_at "go"
      refine ⟨_, _, rfl, _, _, rfl, rfl, hf.1, w1, by omega, hg, fun g H4 hgi hgb s4 => ?_⟩
      obtain ⟨gq, hgq⟩ := hgi
      have dl := dnum_lt hn2.1 (isD_rev c1)
      rw [List.length_reverse, c2] at dl
      have dl2 := Int.emod_lt_of_pos (dnum n cur.reverse) (show 0 < n ^ ds.length by omega)
      rw [dl.2] at dl2
      walk_at "go"
      refine e_I (wide_mul (a := 200) (b := 200) (by omega) (by omega) (by decide) (by decide) (by decide)) ?_
      walk_at "go"
      refine ⟨_, _, rfl, .inl (((s2.trans s3).trans s4).seq hr), ?_⟩
      walk_at "go"
      rw [List.length_map]
      refine ⟨_, _, _, rfl, _, n, _, rfl, rfl, rfl, hn, by omega, fun r2 H5 hr2 s5 e5 => ?_⟩
      walk_at "go"
      refine ⟨_, _, rfl, SqL.of e5, fun r3 hr3 => ?_⟩
      rw [← List.map_reverse]
      walk_at "go"
      have sA := (((s1.trans s2).trans s3).trans s4).trans s5
      have hst : stp n ks (3 - i) (ust n g (ks.getD (2 * (3 - i) + 1) 0) cur) = cur := by
        refine mst_ust (q := gq) hn2.1 c1 ?_
        rw [c2]
        exact hgq
      refine ⟨⟨r3, ust n g (ks.getD (2 * (3 - i) + 1) 0) cur, _, _, rfl, ust_isD hn2.1 _ _ _, (ust_len ..).trans c2, ?_, SqL.of upd_same, fun _ => ⟨sA.free hr3, upd_same⟩⟩, sA.trans (same_new hr3)⟩
      show mixF n ks i (stp n ks (3 - i) _) = ds
      rw [hst, c3]
    · obtain ⟨⟨r, cur, v4, v5, rfl, c1, c2, c3, hr, hf⟩, s1⟩ := z
      obtain ⟨f1, f2⟩ := hf rfl
      walk_at "go"
      exact k cur c1 c2 c3 r H1 f1 s1 f2
theorem ok_factor (T : Txt K mg)   {f : Addr} {fd : FuncData} (F : FnP K "factor" s_factor f fd) : FnOk P w K mg base CX0 1 f fd ["number", "base"] (sp_factor K) := by
  refine F.ok sc_factor (fun vs H Q E h => ?_) (fun cdv A outer s H vs Q E hr h => ?_)
  · obtain ⟨_, _, rfl, _⟩ := h
    rfl
  · have S := sc_factor
    refine ⟨_, PSs.nox (pss_cons (ps_if (pt_cmpR op_eq (pv 1) (C8.pe_gc (by rfl) T.c_BYTE_BASE) (nomark _))
    (pss_one (ps_ret (pe_op op_add (pe_op op_mul pe_int (pv 0)) pe_int)))
    pss_nil)
    (pss_cons (ps_setLc (i := 2) (own := [("unit", 3)]) (g := gName 3) rfl S.nd rfl rfl (sw_true rfl rfl rfl (by decide +kernel)) (pi_range2 (by rfl) T.f_range (pa_cons pe_int (pa_cons (pv 1) pa_nil))) (blkOk_by (N := N_factor) (sc := defScope s_factor) (by decide +kernel)) (fun _ _ _ _ _ => (pg_name (i := 3) S.nd rfl (by first | exact .inl rfl | exact .inr rfl | exact .inr (.inl rfl) | exact .inr (.inr rfl)))) (fun _ _ _ _ _ => (pts_one (pt_cmpR op_eq (pe_callBfun cr_gcd (by rfl) T.b_gcd (pa_cons (pv 3) (pa_cons (pv 1) pa_nil))) pe_int (nomark _)))) (fun _ _ _ _ _ => (pv 3)))
    (pss_one (ps_ret (pe_op op_add (pe_op op_mul (pv 1) (pe_op op_fdivW (pv 0) (pe_callB call_len_seq (by rfl) T.f_len (by first | rfl | decide +kernel) (pa_cons (pv 2) pa_nil)))) (pe_ix ix_list (pv 2) (pe_op op_mod (pv 0) (pe_callB call_len_seq (by rfl) T.f_len (by first | rfl | decide +kernel) (pa_cons (pv 2) pa_nil))) (fun _ _ => rfl))))))), ?_⟩
    try dsimp only [cxOf, Cx.nox]
    obtain ⟨_, _, rfl, x, n, rfl, rfl, hn, hx, hx2, k⟩ := h
    rcases hn with rfl | rfl
    · walk_at "go"
      refine i_d (fun e => absurd e (by decide)) (fun _ => ?_)
      walk_at "go"
      intro D hD
      show LcB (Itr 1 65) _ _ _ _ _ _ _ _
      refine lc_filt (K := K) hD (by decide) (fun i => decide (Nat.gcd (1 + i) 66 = 1)) (fun i => .int (1 + (i : Nat))) (fun i H2 C E hi s2 hC hE => ?_) (fun H2 s2 e2 => ?_)
      · walk_at "go"
        refine ⟨_, _, rfl, ?_⟩
        walk_at "go"
        have en : ((1 : Int) + (i : Nat)).natAbs = 1 + i := by omega
        rw [en, show (66 : Int).natAbs = 66 from rfl]
        by_cases hg : Nat.gcd (1 + i) 66 = 1
        · rw [hg]
          refine i_d (fun _ => ?_) (fun e => absurd rfl e)
          walk_at "go"
          exact hC (decide_eq_true hg) H2 (Same.refl H2)
        · rw [decide_eq_false (show ¬ ((Nat.gcd (1 + i) 66 : Nat) : Int) = 1 by omega)]
          walk_at "go"
          exact hE (decide_eq_false hg) H2 (Same.refl H2)
      · rw [uns_eq] at e2
        have hS := SqL.of (K := K) e2
        walk_at "go"
        rw [show (uns.map V.int).length = 20 from rfl]
        walk_at "go"
        have at20 : atI (uns.map V.int) (x % 20) = some (.int (uns.getD (x % 20).toNat 0)) := by
          have h0 := Int.emod_nonneg x (show (20 : Int) ≠ 0 by decide)
          have h1 := Int.emod_lt_of_pos x (show (0 : Int) < 20 by decide)
          have hl : (x % 20).toNat < uns.length := by show _ < 20; omega
          exact at_of (j := (x % 20).toNat) (by omega) (by rw [List.getElem?_map, List.getD_eq_getElem?_getD, List.getElem?_eq_getElem hl]; rfl)
        refine e_ixL hS at20 ?_
        walk_at "go"
        exact k H2 s2
    · walk_at "go"
      refine i_d (fun e => ?_) (fun e => absurd rfl e)
      walk_at "go"
      exact k H (Same.refl H)
theorem ok_number (T : Txt K mg)   {f : Addr} {fd : FuncData} (F : FnP K "_number" s_number f fd) : FnOk P w K mg base CX0 1 f fd ["digits", "base"] (sp_number K) := by
  refine F.ok sc_number (fun vs H Q E h => ?_) (fun cdv A outer s H vs Q E hr h => ?_)
  · obtain ⟨_, _, rfl, _⟩ := h
    rfl
  · have S := sc_number
    refine ⟨_, PSs.nox (pss_cons (ps_set (i := 2) S.nd rfl (by first | exact .inl rfl | exact .inr rfl | exact .inr (.inl rfl) | exact .inr (.inr rfl)) pe_int)
    (pss_cons (ps_for PassesOwn.never rfl (pi_list (pv 0)) (pg_name (i := 3) S.nd rfl (by first | exact .inl rfl | exact .inr rfl | exact .inr (.inl rfl) | exact .inr (.inr rfl)))
    (pss_one (ps_set (i := 2) S.nd rfl (by first | exact .inl rfl | exact .inr rfl | exact .inr (.inl rfl) | exact .inr (.inr rfl)) (pe_op op_add (pe_op op_mul (pv 2) (pv 1)) (pv 3)))))
    (pss_one (ps_ret (pv 2))))), ?_⟩
    try dsimp only [cxOf, Cx.nox]
    obtain ⟨_, _, rfl, p, ds, n, rfl, rfl, hn, hS, k⟩ := h
    have hn2 : 0 < n ∧ n < 1000 := by rcases hn with rfl | rfl <;> decide
    walk_at "go"
    refine for_ints (ns := ds) (fun pre σ H1 => (∃ v, σ = [some (.ref p), some (.int n), some (.int (dnum n pre)), v]) ∧ H1 = H) ⟨⟨_, rfl⟩, rfl⟩ (fun pre σ H1 q => by rw [q.2]; exact hS) (fun pre x post σ H1 e q => ?_) (fun σ H1 q => ?_)
    · obtain ⟨⟨v, rfl⟩, rfl⟩ := q
      walk_at "go"
      refine ⟨⟨some (.int x), ?_⟩, rfl⟩
      rw [dnum_snoc]
      rfl
    · obtain ⟨⟨v, rfl⟩, rfl⟩ := q
      walk_at "go"
      exact k
theorem ok_turned_digits (T : Txt K mg)   {f : Addr} {fd : FuncData} (F : FnP K "_turned_digits" s_turned_digits f fd) : FnOk P w K mg base CX0 1 f fd ["number", "base", "count"] (sp_turned_digits K) := by
  refine F.ok sc_turned_digits (fun vs H Q E h => ?_) (fun cdv A outer s H vs Q E hr h => ?_)
  · obtain ⟨_, _, _, rfl, _⟩ := h
    rfl
  · have S := sc_turned_digits
    refine ⟨_, PSs.nox (pss_cons (ps_set (i := 3) S.nd rfl (by first | exact .inl rfl | exact .inr rfl | exact .inr (.inl rfl) | exact .inr (.inr rfl)) (pe_lst pa_nil))
    (pss_cons (ps_for PassesOwn.never rfl (pi_range1 (by rfl) T.f_range (pa_cons (pv 2) pa_nil)) (pg_name (i := 4) S.nd rfl (by first | exact .inl rfl | exact .inr rfl | exact .inr (.inl rfl) | exact .inr (.inr rfl)))
    (pss_cons (ps_expr (pe_bm PySem.F.plainAttrs_list PySem.F.slot_list_append PySem.F.type_list_append mt_append (pv 3) (pa_cons (pe_op op_mod (pv 0) (pv 1)) pa_nil)))
      (pss_one (ps_set (i := 0) S.nd rfl (by first | exact .inl rfl | exact .inr rfl | exact .inr (.inl rfl) | exact .inr (.inr rfl)) (pe_op op_fdivW (pv 0) (pv 1))))))
    (pss_one (ps_ret (pv 3))))), ?_⟩
    try dsimp only [cxOf, Cx.nox]
    obtain ⟨_, _, _, rfl, x, n, m, rfl, rfl, rfl, hn, hm, k⟩ := h
    have hn2 : 0 < n ∧ n < 1000 := by rcases hn with rfl | rfl <;> decide
    walk_at "go"
    rename_i p hp
    rw [show (((m : Nat) : Int)).toNat = m from rfl]
    refine for_rng (fun i σ H1 => (∃ v, σ = [some (.int (shr n i x)), some (.int n), some (.int m), some (.ref p), v]) ∧ Same H H1 ∧ H1 p = some (.lst ((low n i x).map V.int))) ⟨⟨none, rfl⟩, same_new hp, upd_same⟩ (fun i σ H1 hi q => ?_) (fun σ H1 q => ?_)
    · obtain ⟨⟨v, rfl⟩, s1, e1⟩ := q
      walk_at "go"
      refine e_app e1 (sz_of (by rw [List.length_map, low_len]; omega)) ?_
      walk_at "go"
      refine ⟨⟨_, rfl⟩, Same.mut s1 hp, ?_⟩
      rw [upd_same, low_snoc, List.map_append]
      rfl
    · obtain ⟨⟨v, rfl⟩, s1, e1⟩ := q
      walk_at "go"
      exact k p H1 hp s1 e1
theorem ok_power (T : Txt K mg)   {f : Addr} {fd : FuncData} (F : FnP K "_power" s_power f fd) : FnOk P w K mg base CX0 1 f fd ["base", "count"] (sp_power K) := by
  refine F.ok sc_power (fun vs H Q E h => ?_) (fun cdv A outer s H vs Q E hr h => ?_)
  · obtain ⟨_, _, rfl, _⟩ := h
    rfl
  · have S := sc_power
    refine ⟨_, PSs.nox (pss_cons (ps_set (i := 2) S.nd rfl (by first | exact .inl rfl | exact .inr rfl | exact .inr (.inl rfl) | exact .inr (.inr rfl)) pe_int)
    (pss_cons (ps_for PassesOwn.never rfl (pi_range1 (by rfl) T.f_range (pa_cons (pv 1) pa_nil)) (pg_name (i := 3) S.nd rfl (by first | exact .inl rfl | exact .inr rfl | exact .inr (.inl rfl) | exact .inr (.inr rfl)))
    (pss_one (ps_set (i := 2) S.nd rfl (by first | exact .inl rfl | exact .inr rfl | exact .inr (.inl rfl) | exact .inr (.inr rfl)) (pe_op op_mul (pv 2) (pv 0)))))
    (pss_one (ps_ret (pv 2))))), ?_⟩
    try dsimp only [cxOf, Cx.nox]
    obtain ⟨_, _, rfl, n, m, rfl, rfl, hn, hm, k⟩ := h
    have hn2 : 0 < n ∧ n < 1000 := by rcases hn with rfl | rfl <;> decide
    walk_at "go"
    rw [show (((m : Nat) : Int)).toNat = m from rfl]
    refine for_rng (fun i σ H1 => (∃ v, σ = [some (.int n), some (.int m), some (.int (n ^ i)), v]) ∧ H1 = H) ⟨⟨none, by rw [Int.pow_zero]; rfl⟩, rfl⟩ (fun i σ H1 hi q => ?_) (fun σ H1 q => ?_)
    · obtain ⟨⟨v, rfl⟩, rfl⟩ := q
      walk_at "go"
      refine ⟨⟨some (.int (0 + (i : Nat))), ?_⟩, rfl⟩
      rw [Int.pow_succ]
      rfl
    · obtain ⟨⟨v, rfl⟩, rfl⟩ := q
      walk_at "go"
      exact k
theorem ok_inverse (T : Txt K mg)   {f : Addr} {fd : FuncData} (F : FnP K "_inverse" s_inverse f fd) : FnOk P w K mg base CX0 1 f fd ["number", "whole"] (sp_inverse K) := by
  refine F.ok sc_inverse (fun vs H Q E h => ?_) (fun cdv A outer s H vs Q E hr h => ?_)
  · obtain ⟨_, _, rfl, _⟩ := h
    rfl
  · have S := sc_inverse
    refine ⟨_, PSs.nox (pss_cons (ps_par (i := 2) (j := 3) (by rfl) S.nd rfl rfl (by decide) rfl rfl (pa_cons (pv 1) (pa_cons (pe_op op_mod (pv 0) (pv 1)) pa_nil)) (by rfl))
    (pss_cons (ps_asg (pe_tup (pa_cons pe_int (pa_cons pe_int pa_nil))) (pg_tup rfl (pgs_cons (pg_name (i := 4) S.nd rfl (by first | exact .inl rfl | exact .inr rfl | exact .inr (.inl rfl) | exact .inr (.inr rfl))) (pgs_cons (pg_name (i := 5) S.nd rfl (by first | exact .inl rfl | exact .inr rfl | exact .inr (.inl rfl) | exact .inr (.inr rfl))) pgs_nil))))
    (pss_cons (ps_while PassesOwn.never (pt_cmpR op_gt (pv 3) pe_int (nomark _))
    (pss_cons (ps_set (i := 6) S.nd rfl (by first | exact .inl rfl | exact .inr rfl | exact .inr (.inl rfl) | exact .inr (.inr rfl)) (pe_op op_fdivW (pv 2) (pv 3)))
      (pss_cons (ps_par (i := 2) (j := 3) (by rfl) S.nd rfl rfl (by decide) rfl rfl (pa_cons (pv 3) (pa_cons (pe_op op_sub (pv 2) (pe_op op_mulW (pv 6) (pv 3))) pa_nil)) (by rfl))
      (pss_one (ps_par (i := 4) (j := 5) (by rfl) S.nd rfl rfl (by decide) rfl rfl (pa_cons (pv 5) (pa_cons (pe_op op_sub (pv 4) (pe_op op_mulW (pv 6) (pv 5))) pa_nil)) (by rfl))))))
    (pss_one (ps_ret (pv 5)))))), ?_⟩
    try dsimp only [cxOf, Cx.nox]
    obtain ⟨_, _, rfl, n, w, rfl, rfl, hn, hw, hw2, hg, k⟩ := h
    walk_at "go"
    refine ⟨_, _, rfl, ?_⟩
    walk_at "go"
    rename_i t ht
    have s0 := same_new (o := .tup [.int 0, .int 1]) ht
    generalize upd H t (.tup [.int 0, .int 1]) = Hz at *
    refine ⟨fun m σ H1 => ∃ (la re lp p : Int) (v6 : Option V), σ = [some (.int n), some (.int w), some (.int la), some (.int re), some (.int lp), some (.int p), v6] ∧ H1 = Hz ∧ Eu n w la re lp p ∧ m = re.toNat, ⟨_, _, _, _, _, none, rfl, rfl, Eu.start hn hw hg, rfl⟩, fun m σ H1 q => ?_⟩
    obtain ⟨la, re, lp, p, v6, rfl, rfl, hE, rfl⟩ := q
    walk_at "go"
    refine i_d (fun h1 => ?_) (fun h1 => ?_)
    · obtain ⟨hE2, l0, l1⟩ := hE.step h1
      have hm := hE.m
      have ha := hE.abs
      have ha2 := hE2.abs
      have t0 : 0 ≤ la / re := Int.ediv_nonneg (by omega) (by omega)
      have t1 : la / re ≤ la := Int.ediv_le_self _ (by omega)
      refine ⟨fun σ' H' => ∃ (la re2 lp p : Int) (v6 : Option V), σ' = [some (.int n), some (.int w), some (.int la), some (.int re2), some (.int lp), some (.int p), v6] ∧ H' = H1 ∧ Eu n w la re2 lp p ∧ 0 ≤ re2 ∧ re2 < re, ?_, ?_⟩
      · rintro σ' H' ⟨la2, re2, lp2, p2, v2, rfl, rfl, hE3, h2, h3⟩
        exact ⟨re2.toNat, by omega, la2, re2, lp2, p2, v2, rfl, rfl, hE3, rfl⟩
      · walk_at "go"
        refine e_I (wide_div (b := 200) (by omega) (by omega) (by decide) (by decide)) ?_
        walk_at "go"
        refine e_I (wide_mul (a := 200) (b := 200) (by omega) (by omega) (by decide) (by decide) (by decide)) ?_
        walk_at "go"
        refine ⟨_, _, rfl, ?_⟩
        walk_at "go"
        refine e_I (wide_mul (a := 200) (b := 200) (by omega) (by omega) (by decide) (by decide) (by decide)) ?_
        walk_at "go"
        refine ⟨_, _, rfl, ?_⟩
        walk_at "go"
        exact ⟨_, _, _, _, _, rfl, rfl, hE2, l0, l1⟩
    · walk_at "go"
      exact k _ _ (hE.fin h1) hE.abs s0
theorem ok_seal_name (T : Txt K mg)  (c_root_of : Cal P w K mg base 1 "root_of" (sp_root_of K)) (c_name_of : Cal P w K mg base 1 "_name_of" (sp_name_of K)) (c_mixed : Cal P w K mg base 2 "mixed" (sp_mixed K)) (c_digits_of : Cal P w K mg base 1 "_digits_of" (sp_digits_of K)) {f : Addr} {fd : FuncData} (F : FnP K "seal_name" s_seal_name f fd) : FnOk P w K mg base CX0 3 f fd ["name", "key"] (sp_seal_name K) := by
  refine F.ok sc_seal_name (fun vs H Q E h => ?_) (fun cdv A outer s H vs Q E hr h => ?_)
  · obtain ⟨_, _, rfl, _⟩ := h
    rfl
  · have S := sc_seal_name
    refine ⟨_, PSs.nox (pss_cons (ps_set (i := 2) S.nd rfl (by first | exact .inl rfl | exact .inr rfl | exact .inr (.inl rfl) | exact .inr (.inr rfl)) (pe_c c_root_of hr (by decide) (by rfl) (pa_cons (pv 0) pa_nil)))
    (pss_one (ps_ret (pe_op op_add_str (pe_c c_name_of hr (by decide) (by rfl) (pa_cons (pe_c c_mixed hr (by decide) (by rfl) (pa_cons (pe_c c_digits_of hr (by decide) (by rfl) (pa_cons (pv 2) pa_nil)) (pa_cons (C8.pe_gc (by rfl) T.c_NAME_BASE) (pa_cons (pv 1) pa_nil)))) pa_nil)) (pe_slice sl_str (pv 0) (po_some (pe_callB call_len_str (by rfl) T.f_len (by first | rfl | decide +kernel) (pa_cons (pv 2) pa_nil))) po_none))))), ?_⟩
    try dsimp only [cxOf, Cx.nox]
    obtain ⟨_, _, rfl, ds, ks, t, q, rfl, rfl, hT, hk, hd, ht, hl, k⟩ := h
    have hz : (nmS ds ++ t).length ≤ 1000 := by rw [len_app, nmS_len]; omega
    walk_at "go"
    refine ⟨_, rfl, ds, t, rfl, hd, ht, hl, fun H1 s1 => ?_⟩
    walk_at "go"
    refine ⟨_, rfl, ds, rfl, hd, by omega, fun p1 H2 h2 s2 e2 => ?_⟩
    walk_at "go"
    refine ⟨_, _, _, rfl, p1, q, 66, ds, ks, rfl, rfl, rfl, SqL.of e2, same_tup (s1.trans s2) hT, .inl rfl, hk, hd, by omega, fun p2 H3 h3 s3 e3 => ?_⟩
    walk_at "go"
    have m1 := mix_isD (.inl rfl : Base 66) ks hd
    have m2 := mix_len (.inl rfl : Base 66) ks hd
    refine ⟨_, rfl, p2, _, rfl, SqL.of e3, m1, by omega, fun H4 s4 => ?_⟩
    walk_at "go"
    refine ⟨_, rfl, sz_of (by rw [nmS_len]; omega), _, rfl, ?_⟩
    walk_at "go"
    rw [cut_name]
    refine ⟨_, _, rfl, rfl, sz_of (by rw [nmS_len]; omega), ?_⟩
    exact k _ (((s1.trans s2).trans s3).trans s4)
theorem ok_open_name (T : Txt K mg)  (c_root_of : Cal P w K mg base 1 "root_of" (sp_root_of K)) (c_name_of : Cal P w K mg base 1 "_name_of" (sp_name_of K)) (c_unmixed : Cal P w K mg base 2 "unmixed" (sp_unmixed K)) (c_digits_of : Cal P w K mg base 1 "_digits_of" (sp_digits_of K)) {f : Addr} {fd : FuncData} (F : FnP K "open_name" s_open_name f fd) : FnOk P w K mg base CX0 3 f fd ["name", "key"] (sp_open_name K) := by
  refine F.ok sc_open_name (fun vs H Q E h => ?_) (fun cdv A outer s H vs Q E hr h => ?_)
  · obtain ⟨_, _, rfl, _⟩ := h
    rfl
  · have S := sc_open_name
    refine ⟨_, PSs.nox (pss_cons (ps_set (i := 2) S.nd rfl (by first | exact .inl rfl | exact .inr rfl | exact .inr (.inl rfl) | exact .inr (.inr rfl)) (pe_c c_root_of hr (by decide) (by rfl) (pa_cons (pv 0) pa_nil)))
    (pss_one (ps_ret (pe_op op_add_str (pe_c c_name_of hr (by decide) (by rfl) (pa_cons (pe_c c_unmixed hr (by decide) (by rfl) (pa_cons (pe_c c_digits_of hr (by decide) (by rfl) (pa_cons (pv 2) pa_nil)) (pa_cons (C8.pe_gc (by rfl) T.c_NAME_BASE) (pa_cons (pv 1) pa_nil)))) pa_nil)) (pe_slice sl_str (pv 0) (po_some (pe_callB call_len_str (by rfl) T.f_len (by first | rfl | decide +kernel) (pa_cons (pv 2) pa_nil))) po_none))))), ?_⟩
    try dsimp only [cxOf, Cx.nox]
    obtain ⟨_, _, rfl, ds, ks, t, q, rfl, rfl, hT, hk, hd, ht, hl1, hl, hl2, k⟩ := h
    have hz : (nmS ds ++ t).length ≤ 1000 := by rw [len_app, nmS_len]; omega
    walk_at "go"
    refine ⟨_, rfl, ds, t, rfl, hd, ht, by omega, fun H1 s1 => ?_⟩
    walk_at "go"
    refine ⟨_, rfl, ds, rfl, hd, by omega, fun p1 H2 h2 s2 e2 => ?_⟩
    walk_at "go"
    refine ⟨_, _, _, rfl, p1, q, 66, ds, ks, rfl, rfl, rfl, SqL.of e2, same_tup (s1.trans s2) hT, .inl rfl, hk, hd, .inl ⟨rfl, hl⟩, hl1, fun es m1 m2 m3 p2 H3 h3 s3 e3 => ?_⟩
    walk_at "go"
    refine ⟨_, rfl, p2, _, rfl, SqL.of e3, m1, by omega, fun H4 s4 => ?_⟩
    walk_at "go"
    refine ⟨_, rfl, sz_of (by rw [nmS_len]; omega), _, rfl, ?_⟩
    walk_at "go"
    rw [cut_name]
    refine ⟨_, _, rfl, rfl, sz_of (by rw [nmS_len]; omega), ?_⟩
    exact k es _ m1 m2 m3 (((s1.trans s2).trans s3).trans s4)
theorem ok_digits_of (T : Txt K mg)   {f : Addr} {fd : FuncData} (F : FnP K "_digits_of" s_digits_of f fd) : FnOk P w K mg base CX0 1 f fd ["root"] (sp_digits_of K) := by
  refine F.ok sc_digits_of (fun vs H Q E h => ?_) (fun cdv A outer s H vs Q E hr h => ?_)
  · obtain ⟨_, rfl, _⟩ := h
    rfl
  · have S := sc_digits_of
    refine ⟨_, PSs.nox (pss_one (ps_ret (pe_lc (own := [("char", 1)]) (g := gName 1) (tt := tYes) rfl S.nd (pi_str (pv 0)) (blkOk_by (N := N_digits_of) (sc := defScope s_digits_of) (by decide +kernel)) (fun _ _ _ _ _ => (pg_name (i := 1) S.nd rfl (by first | exact .inl rfl | exact .inr rfl | exact .inr (.inl rfl) | exact .inr (.inr rfl)))) (fun _ _ _ _ _ => pts_nil) (fun _ _ _ _ _ => (pe_m1 PySem.F.slot_str_index PySem.F.type_str_index mt_idxS (C8.pe_gc (by rfl) T.c_CHARACTERS) (pv 1)))))), ?_⟩
    try dsimp only [cxOf, Cx.nox]
    obtain ⟨_, rfl, ds, rfl, hd, hl, k⟩ := h
    walk_at "go"
    intro D hD
    refine lc_str (fun pre H1 => Same H H1 ∧ H1 D = some (.lst ((ds.take pre.length).map V.int))) ⟨same_new hD, upd_same⟩ (fun pre c post H1 e q => ?_) (fun H1 q => ?_)
    · obtain ⟨s1, e1⟩ := q
      rw [nmS_tl] at e
      have hi : pre.length < ds.length := by
        have := congrArg List.length e
        rw [List.length_map, List.length_append, List.length_cons] at this
        omega
      have hc : c = letr ds[pre.length] := by
        have h2 : (ds.map letr)[pre.length]? = some c := by rw [e]; simp
        rw [List.getElem?_map, List.getElem?_eq_getElem hi] at h2
        exact (Option.some.inj h2).symm
      have hb := hd _ (List.getElem_mem hi)
      obtain ⟨k2, ek, ix⟩ := letr_index hb
      walk_at "go"
      refine ⟨_, _, k2, rfl, rfl, by rw [hc]; exact ix, ?_⟩
      refine ⟨_, e1, Nat.lt_of_le_of_lt (by rw [List.length_map, List.length_take]; omega : _ ≤ 1000) (by decide), Same.mut s1 hD, ?_⟩
      rw [upd_same, List.length_append, List.length_singleton, List.take_add_one, List.getElem?_eq_getElem hi, List.map_append, ← ek]
      rfl
    · obtain ⟨s1, e1⟩ := q
      refine k D H1 hD s1 ?_
      rw [e1, nmS_tl, List.length_map, List.take_length]
theorem ok_name_of (T : Txt K mg)   {f : Addr} {fd : FuncData} (F : FnP K "_name_of" s_name_of f fd) : FnOk P w K mg base CX0 1 f fd ["digits"] (sp_name_of K) := by
  refine F.ok sc_name_of (fun vs H Q E h => ?_) (fun cdv A outer s H vs Q E hr h => ?_)
  · obtain ⟨_, rfl, _⟩ := h
    rfl
  · have S := sc_name_of
    refine ⟨_, PSs.nox (pss_one (ps_ret (pe_join pe_str (pe_lc (own := [("digit", 1)]) (g := gName 1) (tt := tYes) rfl S.nd (pi_list (pv 0)) (blkOk_by (N := N_name_of) (sc := defScope s_name_of) (by decide +kernel)) (fun _ _ _ _ _ => (pg_name (i := 1) S.nd rfl (by first | exact .inl rfl | exact .inr rfl | exact .inr (.inl rfl) | exact .inr (.inr rfl)))) (fun _ _ _ _ _ => pts_nil) (fun _ _ _ _ _ => (pe_ix ix_str (C8.pe_gc (by rfl) T.c_CHARACTERS) (pv 1) (fun _ _ => rfl))))))), ?_⟩
    try dsimp only [cxOf, Cx.nox]
    obtain ⟨_, rfl, p, ds, rfl, hS, hd, hl, k⟩ := h
    walk_at "go"
    intro D hD
    refine lc_map_lst hS hD (by rw [List.length_map]; omega) (fun v => match v with | .int d => .str (oneS d) | _ => .non) (fun x H2 C E hx s2 hC => ?_) (fun H2 s2 e2 => ?_)
    · obtain ⟨d, hd2, rfl⟩ := List.mem_map.mp hx
      walk_at "go"
      refine e_ixS (by decide +kernel) (letr_at (hd d hd2)) ?_
      exact hC H2 (Same.refl H2)
    · have e3 : H2 D = some (.lst ((ds.map oneS).map V.str)) := by
        rw [e2, List.map_map, List.map_map]
        rfl
      refine ⟨_, D, ds.map oneS, rfl, rfl, .inl (SqL.of e3), ?_, ?_⟩
      · rw [one_sum, show (Str.ofString "").length = 0 by decide +kernel]
        omega
      · rw [join_one]
        exact k H2 s2
theorem ok_seal_blocks (T : Txt K mg)  (c_block_number : Cal P w K mg base 1 "block_number" (sp_block_number K)) (c_mixed : Cal P w K mg base 2 "mixed" (sp_mixed K)) (c_block_bytes : Cal P w K mg base 2 "block_bytes" (sp_block_bytes K)) {f : Addr} {fd : FuncData} (F : FnP K "_seal_blocks" s_seal_blocks f fd) : FnOk P w K mg base CX0 3 f fd ["blocks", "key"] (sp_seal_blocks K) := by
  refine F.ok sc_seal_blocks (fun vs H Q E h => ?_) (fun cdv A outer s H vs Q E hr h => ?_)
  · obtain ⟨_, _, rfl, _⟩ := h
    rfl
  · have S := sc_seal_blocks
    refine ⟨_, PSs.nox (pss_one (ps_ret (pe_callTy call_tuple_of (by rfl) T.f_tuple (by first | rfl | decide +kernel) (pa_cons (pe_lc (own := [("block", 2)]) (g := gName 2) (tt := tYes) rfl S.nd (pi_tup (pv 0)) (blkOk_by (N := N_seal_blocks) (sc := defScope s_seal_blocks) (by decide +kernel)) (fun _ _ _ _ _ => (pg_name (i := 2) S.nd rfl (by first | exact .inl rfl | exact .inr rfl | exact .inr (.inl rfl) | exact .inr (.inr rfl)))) (fun _ _ _ _ _ => pts_nil) (fun _ _ _ _ _ => (pe_c c_block_number hr (by decide) (by rfl) (pa_cons (pe_c c_mixed hr (by decide) (by rfl) (pa_cons (pe_c c_block_bytes hr (by decide) (by rfl) (pa_cons (pv 2) pa_nil)) (pa_cons (C8.pe_gc (by rfl) T.c_BYTE_BASE) (pa_cons (pv 1) pa_nil)))) pa_nil)))) pa_nil)))), ?_⟩
    try dsimp only [cxOf, Cx.nox]
    obtain ⟨_, _, rfl, p, q, cs, ks, rfl, rfl, hS, hc, hl, hT, hk, k⟩ := h
    walk_at "go"
    intro D hD
    refine lc_mapT hS hD (by rw [List.length_map, List.length_map]; omega) (fun v => match v with | .int n => .int (bnum (mix 256 ks (bbytes n))) | _ => .non) (fun x H2 C E hx s2 hC => ?_) (fun H2 s2 e2 => ?_)
    · rw [List.map_map] at hx
      obtain ⟨c, hcm, rfl⟩ := List.mem_map.mp hx
      have pc := hc c hcm
      have hC2 : ∀ H3, Same H2 H3 → C (.int (bnum (mix 256 ks c))) H3 := fun H3 s3 => by
        have := hC H3 s3
        dsimp only [Function.comp] at this
        rw [bbytes_bnum pc] at this
        exact this
      dsimp only [Function.comp]
      walk_at "go"
      refine ⟨_, rfl, _, rfl, by rw [bsize_bnum pc]; have := pc.h1; omega, fun r H3 hr s3 e3 => ?_⟩
      rw [bbytes_bnum pc] at e3
      walk_at "go"
      refine ⟨_, _, _, rfl, r, q, 256, c, ks, rfl, rfl, rfl, SqL.of e3, same_tup (s2.trans s3) hT, .inr rfl, hk, pc.b, by have := pc.h4; omega, fun r2 H4 hr2 s4 e4 => ?_⟩
      walk_at "go"
      exact ⟨_, rfl, r2, _, rfl, SqL.of e4, hC2 H4 (s3.trans s4)⟩
    · walk_at "go"
      refine ⟨D, _, rfl, .inl ⟨SqL.of e2, fun l hl2 => ?_⟩⟩
      refine k l _ (s2.free hl2) (s2.trans (same_new hl2)) ?_
      rw [upd_same]
      congr 2
      rw [List.map_map, List.map_map, List.map_map, List.map_map]
      refine List.map_congr_left fun c hcm => ?_
      dsimp only [Function.comp]
      rw [bbytes_bnum (hc c hcm)]
theorem ok_open_blocks (T : Txt K mg)  (c_block_number : Cal P w K mg base 1 "block_number" (sp_block_number K)) (c_unmixed : Cal P w K mg base 2 "unmixed" (sp_unmixed K)) (c_block_bytes : Cal P w K mg base 2 "block_bytes" (sp_block_bytes K)) {f : Addr} {fd : FuncData} (F : FnP K "_open_blocks" s_open_blocks f fd) : FnOk P w K mg base CX0 3 f fd ["blocks", "key"] (sp_open_blocks K) := by
  refine F.ok sc_open_blocks (fun vs H Q E h => ?_) (fun cdv A outer s H vs Q E hr h => ?_)
  · obtain ⟨_, _, rfl, _⟩ := h
    rfl
  · have S := sc_open_blocks
    refine ⟨_, PSs.nox (pss_one (ps_ret (pe_callTy call_tuple_of (by rfl) T.f_tuple (by first | rfl | decide +kernel) (pa_cons (pe_lc (own := [("block", 2)]) (g := gName 2) (tt := tYes) rfl S.nd (pi_tup (pv 0)) (blkOk_by (N := N_open_blocks) (sc := defScope s_open_blocks) (by decide +kernel)) (fun _ _ _ _ _ => (pg_name (i := 2) S.nd rfl (by first | exact .inl rfl | exact .inr rfl | exact .inr (.inl rfl) | exact .inr (.inr rfl)))) (fun _ _ _ _ _ => pts_nil) (fun _ _ _ _ _ => (pe_c c_block_number hr (by decide) (by rfl) (pa_cons (pe_c c_unmixed hr (by decide) (by rfl) (pa_cons (pe_c c_block_bytes hr (by decide) (by rfl) (pa_cons (pv 2) pa_nil)) (pa_cons (C8.pe_gc (by rfl) T.c_BYTE_BASE) (pa_cons (pv 1) pa_nil)))) pa_nil)))) pa_nil)))), ?_⟩
    try dsimp only [cxOf, Cx.nox]
    obtain ⟨_, _, rfl, p, q, cs, ks, rfl, rfl, hS, hc, hl, hT, hk, k⟩ := h
    walk_at "go"
    intro D hD
    refine lc_tup (K := K) (xs := (cs.map bnum).map V.int) (fun i H2 => Same H H2 ∧ ∃ es : List (List Int), (∀ c ∈ es, Piece c) ∧ es.map (mix 256 ks) = cs.take i ∧ H2 D = some (.lst ((es.map bnum).map V.int))) ⟨same_new hD, [], (fun _ h => nomatch h), rfl, upd_same⟩ (fun i H2 _ z => same_tup z.1 hS) (fun i x H2 hx z => ?_) (fun H2 z => ?_)
    · obtain ⟨s2, es, p1, p2, e2⟩ := z
      rw [List.map_map, List.getElem?_map] at hx
      obtain ⟨c, hcg, rfl⟩ := Option.map_eq_some_iff.mp hx
      have hcm := List.mem_of_getElem? hcg
      have pc := hc c hcm
      have le : es.length ≤ cs.length := by
        have := congrArg List.length p2
        rw [List.length_map, List.length_take] at this
        omega
      dsimp only [Function.comp]
      walk_at "go"
      refine ⟨_, rfl, _, rfl, by rw [bsize_bnum pc]; have := pc.h1; omega, fun r H3 hr s3 e3 => ?_⟩
      rw [bbytes_bnum pc] at e3
      walk_at "go"
      refine ⟨_, _, _, rfl, r, q, 256, c, ks, rfl, rfl, rfl, SqL.of e3, same_tup (s2.trans s3) hT, .inr rfl, hk, pc.b, .inr pc.h4, pc.h1, fun e q1 q2 q3 r2 H4 hr2 s4 e4 => ?_⟩
      have pe : Piece e := ⟨q1, by rw [q2]; exact pc.h1, by rw [q2]; exact pc.h4⟩
      walk_at "go"
      refine ⟨_, rfl, r2, _, rfl, SqL.of e4, ?_⟩
      refine ⟨_, (s3.trans s4) _ _ e2, Nat.lt_of_le_of_lt (by rw [List.length_map, List.length_map]; omega : _ ≤ 1000000) (by decide), Same.mut ((s2.trans s3).trans s4) hD, es ++ [e], ?_, ?_, ?_⟩
      · intro c2 h2
        rcases List.mem_append.mp h2 with h3 | h3
        · exact p1 c2 h3
        · rw [List.mem_singleton.mp h3]; exact pe
      · rw [List.map_append, p2, List.take_add_one, hcg]
        show _ ++ [mix 256 ks e] = _
        rw [q3]
        rfl
      · rw [upd_same, List.map_append, List.map_append]
        rfl
    · obtain ⟨s2, es, p1, p2, e2⟩ := z
      rw [List.length_map, List.length_map, List.take_length] at p2
      walk_at "go"
      refine ⟨D, _, rfl, .inl ⟨SqL.of e2, fun l hl2 => ?_⟩⟩
      exact k l _ es p1 p2 (s2.free hl2) (s2.trans (same_new hl2)) upd_same
theorem ok_seal_content (T : Txt K mg)  (c_joined : Cal P w K mg base 3 "joined" (sp_joined K)) (c_seal_blocks : Cal P w K mg base 3 "_seal_blocks" (sp_seal_blocks K)) (c_split : Cal P w K mg base 2 "split" (sp_split K)) {f : Addr} {fd : FuncData} (F : FnP K "seal_content" s_seal_content f fd) : FnOk P w K mg base CX0 4 f fd ["content", "key"] (sp_seal_content K) := by
  refine F.ok sc_seal_content (fun vs H Q E h => ?_) (fun cdv A outer s H vs Q E hr h => ?_)
  · obtain ⟨_, _, rfl, _⟩ := h
    rfl
  · have S := sc_seal_content
    refine ⟨_, PSs.nox (pss_one (ps_ret (pe_c c_joined hr (by decide) (by rfl) (pa_cons (pe_c c_seal_blocks hr (by decide) (by rfl) (pa_cons (pe_c c_split hr (by decide) (by rfl) (pa_cons (pv 0) pa_nil)) (pa_cons (pv 1) pa_nil))) pa_nil)))), ?_⟩
    try dsimp only [cxOf, Cx.nox]
    obtain ⟨_, _, rfl, p, q, xs, ks, rfl, rfl, hS, hb, hl, hT, hk, k⟩ := h
    walk_at "go"
    refine ⟨_, rfl, p, xs, rfl, hS, by omega, fun r H1 h1 s1 e1 => ?_⟩
    have hp := chunks_piece xs hb
    have hcl := chunks_len xs
    walk_at "go"
    refine ⟨_, _, rfl, r, q, chunks xs, ks, rfl, rfl, SqT.of e1, hp, by omega, same_tup s1 hT, hk, fun r2 H2 h2 s2 e2 => ?_⟩
    walk_at "go"
    have hp2 : ∀ c ∈ (chunks xs).map (mix 256 ks), Piece c := fun c h => by
      obtain ⟨d, hd, rfl⟩ := List.mem_map.mp h
      exact mix_piece (hp d hd)
    refine ⟨_, rfl, r2, _, rfl, .inr (SqT.of e2), by rw [List.length_map, List.length_map]; omega, fun n h => ?_, fun r3 H3 h3 s3 e3 => ?_⟩
    · obtain ⟨d, hd, rfl⟩ := List.mem_map.mp h
      rw [bsize_bnum (hp2 d hd)]
      have := (hp2 d hd).h1
      omega
    · rw [flat_bnum hp2, flat_map_map] at e3
      exact k r3 H3 ((s1.trans s2).free h3) ((s1.trans s2).trans s3) e3
theorem ok_seal_entry (T : Txt K mg)  (c_with : Cal P w K mg base 3 "_with" (sp_with K)) (c_seal_blocks : Cal P w K mg base 3 "_seal_blocks" (sp_seal_blocks K)) (c_seal_name : Cal P w K mg base 3 "seal_name" (sp_seal_name K)) {f : Addr} {fd : FuncData} (F : FnP K "seal_entry" s_seal_entry f fd) : FnOk P w K mg base CX0 4 f fd ["entry", "key"] (sp_seal_entry K) := by
  refine F.ok sc_seal_entry (fun vs H Q E h => ?_) (fun cdv A outer s H vs Q E hr h => ?_)
  · obtain ⟨_, _, rfl, _⟩ := h
    rfl
  · have S := sc_seal_entry
    refine ⟨_, PSs.nox (pss_one (ps_ret (pe_c c_with hr (by decide) (by rfl) (pa_cons (pv 0) (pa_cons (pe_c c_seal_name hr (by decide) (by rfl) (pa_cons (pe_fld (pv 0) rfl) (pa_cons (pv 1) pa_nil))) (pa_cons (pe_c c_seal_blocks hr (by decide) (by rfl) (pa_cons (pe_fld (pv 0) rfl) (pa_cons (pv 1) pa_nil))) pa_nil)))))), ?_⟩
    try dsimp only [cxOf, Cx.nox]
    have t : ET K := ⟨T.cl_Entry, T.no_Entry_name, T.no_Entry_vector, T.no_Entry_height, T.no_Entry_maker, T.no_Entry_deleted, T.no_Entry_time, T.no_Entry_blocks⟩
    obtain ⟨_, _, rfl, e, q, x, ks, p, rfl, rfl, hE, ok, hk, k⟩ := h
    walk_at "go"
    refine ⟨_, _, rfl, x.ds, ks, x.t, q, rfl, rfl, hk.1, hk.2, ok.d, ok.t, by have := ok.l2; have := ok.lt; omega, fun H1 s1 => ?_⟩
    have hE1 := hE.same s1
    have hk1 := hk.same s1
    walk_at "go"
    rename_i b hb
    refine ⟨_, _, rfl, b, q, x.cs, ks, rfl, rfl, hb, ok.p, by have := ok.lc; omega, hk1.1, hk1.2, fun r H2 hr s2 er => ?_⟩
    walk_at "go"
    exact ⟨_, _, _, rfl, e, r, p, x.en, _, _, rfl, rfl, rfl, hE1.same s2, SqT.of er, fun r2 H3 s3 hE3 => k r2 H3 ((s1.trans s2).trans s3) hE3⟩
theorem ok_open_entry (T : Txt K mg)  (c_with : Cal P w K mg base 3 "_with" (sp_with K)) (c_open_blocks : Cal P w K mg base 3 "_open_blocks" (sp_open_blocks K)) (c_open_name : Cal P w K mg base 3 "open_name" (sp_open_name K)) {f : Addr} {fd : FuncData} (F : FnP K "open_entry" s_open_entry f fd) : FnOk P w K mg base CX0 4 f fd ["entry", "key"] (sp_open_entry K) := by
  refine F.ok sc_open_entry (fun vs H Q E h => ?_) (fun cdv A outer s H vs Q E hr h => ?_)
  · obtain ⟨_, _, rfl, _⟩ := h
    rfl
  · have S := sc_open_entry
    refine ⟨_, PSs.nox (pss_one (ps_ret (pe_c c_with hr (by decide) (by rfl) (pa_cons (pv 0) (pa_cons (pe_c c_open_name hr (by decide) (by rfl) (pa_cons (pe_fld (pv 0) rfl) (pa_cons (pv 1) pa_nil))) (pa_cons (pe_c c_open_blocks hr (by decide) (by rfl) (pa_cons (pe_fld (pv 0) rfl) (pa_cons (pv 1) pa_nil))) pa_nil)))))), ?_⟩
    try dsimp only [cxOf, Cx.nox]
    have t : ET K := ⟨T.cl_Entry, T.no_Entry_name, T.no_Entry_vector, T.no_Entry_height, T.no_Entry_maker, T.no_Entry_deleted, T.no_Entry_time, T.no_Entry_blocks⟩
    obtain ⟨_, _, rfl, e, q, x, ks, p, rfl, rfl, hE, ok, hk, k⟩ := h
    have ok2 := ok.sl ks
    walk_at "go"
    refine ⟨_, _, rfl, mix 66 ks x.ds, ks, x.t, q, rfl, rfl, hk.1, hk.2, ok2.d, ok2.t, ok2.l1, ok2.l2, by have := ok.lt; omega, fun es H1 h1 h2 h3 s1 => ?_⟩
    have ed := mix66_inj hk.2 ok.d h1 h2 h3
    subst ed
    have hE1 := hE.same s1
    have hk1 := hk.same s1
    walk_at "go"
    rename_i b hb
    refine ⟨_, _, rfl, b, q, x.cs.map (mix 256 ks), ks, rfl, rfl, hb, ok2.p, by rw [List.length_map]; have := ok.lc; omega, hk1.1, hk1.2, fun r H2 es2 g1 g2 hr s2 er => ?_⟩
    have ec := map_mix_inj hk.2 g1 ok.p g2
    subst ec
    walk_at "go"
    exact ⟨_, _, _, rfl, e, r, p, (x.sl ks).en, _, _, rfl, rfl, rfl, hE1.same s2, SqT.of er, fun r2 H3 s3 hE3 => k r2 H3 ((s1.trans s2).trans s3) hE3⟩
theorem ok_with (T : Txt K mg) (c_Entry : C8.Mak P w K mg base 1 "Entry" (He.ga K "Entry") (sp_Entry___init__ K) [])   {f : Addr} {fd : FuncData} (F : FnP K "_with" s_with f fd) : FnOk P w K mg base CX0 3 f fd ["entry", "name", "blocks"] (sp_with K) := by
  refine F.ok sc_with (fun vs H Q E h => ?_) (fun cdv A outer s H vs Q E hr h => ?_)
  · obtain ⟨_, _, _, rfl, _⟩ := h
    rfl
  · have S := sc_with
    refine ⟨_, PSs.nox (pss_one (ps_ret (C8.pe_mk c_Entry hr (by decide) (by rfl) (pa_cons (pv 1) (pa_cons (pe_fld (pv 0) rfl) (pa_cons (pe_fld (pv 0) rfl) (pa_cons (pe_fld (pv 0) rfl) (pa_cons (pe_fld (pv 0) rfl) (pa_cons (pe_fld (pv 0) rfl) (pa_cons (pv 2) pa_nil)))))))))), ?_⟩
    try dsimp only [cxOf, Cx.nox]
    have t : ET K := ⟨T.cl_Entry, T.no_Entry_name, T.no_Entry_vector, T.no_Entry_height, T.no_Entry_maker, T.no_Entry_deleted, T.no_Entry_time, T.no_Entry_blocks⟩
    obtain ⟨_, _, _, rfl, q, bs, p, e, nm, bl, rfl, rfl, rfl, hE, hb, k⟩ := h
    walk_at "go"
    rename_i v hv m hm
    refine e_mkE fun r H3 dx hr s3 hi => ?_
    walk_at "go"
    exact k r H3 s3 (ent_made (dx := dx) (v := v) (m := m) (b := bs) { e with nm := nm, bl := bl } hi (hv.same s3) (same_tup s3 hm) (same_tup s3 hb))
theorem ok_seal_letter (T : Txt K mg)  (c_changed : Cal P w K mg base 5 "_changed" (sp_changed K)) {f : Addr} {fd : FuncData} (F : FnP K "seal_letter" s_seal_letter f fd) : FnOk P w K mg base CX0 6 f fd ["letter", "key"] (sp_seal_letter K) := by
  refine F.ok sc_seal_letter (fun vs H Q E h => ?_) (fun cdv A outer s H vs Q E hr h => ?_)
  · obtain ⟨_, _, rfl, _⟩ := h
    rfl
  · have S := sc_seal_letter
    refine ⟨_, PSs.nox (pss_one (ps_ret (pe_c c_changed hr (by decide) (by rfl) (pa_cons (pv 0) (pa_cons (pv 1) (pa_cons (pe_glob (v := V.ref (He.ga K "seal_name")) (by rfl) T.g_seal_name rfl) (pa_cons (pe_glob (v := V.ref (He.ga K "seal_entry")) (by rfl) T.g_seal_entry rfl) (pa_cons (pe_glob (v := V.ref (He.ga K "_seal_blocks")) (by rfl) T.g_seal_blocks rfl) pa_nil)))))))), ?_⟩
    try dsimp only [cxOf, Cx.nox]
    obtain ⟨_, _, rfl, l, q, L, ks, rfl, rfl, hL, ok, hk, k⟩ := h
    walk_at "go"
    exact ⟨_, _, _, _, _, rfl, l, q, L, ks, true, rfl, rfl, rfl, rfl, rfl, hL, ok, hk, k⟩
theorem ok_open_letter (T : Txt K mg)  (c_changed : Cal P w K mg base 5 "_changed" (sp_changed K)) {f : Addr} {fd : FuncData} (F : FnP K "open_letter" s_open_letter f fd) : FnOk P w K mg base CX0 6 f fd ["letter", "key"] (sp_open_letter K) := by
  refine F.ok sc_open_letter (fun vs H Q E h => ?_) (fun cdv A outer s H vs Q E hr h => ?_)
  · obtain ⟨_, _, rfl, _⟩ := h
    rfl
  · have S := sc_open_letter
    refine ⟨_, PSs.nox (pss_one (ps_ret (pe_c c_changed hr (by decide) (by rfl) (pa_cons (pv 0) (pa_cons (pv 1) (pa_cons (pe_glob (v := V.ref (He.ga K "open_name")) (by rfl) T.g_open_name rfl) (pa_cons (pe_glob (v := V.ref (He.ga K "open_entry")) (by rfl) T.g_open_entry rfl) (pa_cons (pe_glob (v := V.ref (He.ga K "_open_blocks")) (by rfl) T.g_open_blocks rfl) pa_nil)))))))), ?_⟩
    try dsimp only [cxOf, Cx.nox]
    obtain ⟨_, _, rfl, l, q, L, ks, rfl, rfl, hL, ok, hk, k⟩ := h
    walk_at "go"
    exact ⟨_, _, _, _, _, rfl, l, q, L, ks, false, rfl, rfl, rfl, rfl, rfl, hL, ok, hk, k⟩
theorem ok_changed (T : Txt K mg)  (c_seal_entry : Cal P w K mg base 4 "seal_entry" (sp_seal_entry K)) (c_open_entry : Cal P w K mg base 4 "open_entry" (sp_open_entry K)) (c_seal_blocks : Cal P w K mg base 3 "_seal_blocks" (sp_seal_blocks K)) (c_open_blocks : Cal P w K mg base 3 "_open_blocks" (sp_open_blocks K)) (c_seal_name : Cal P w K mg base 3 "seal_name" (sp_seal_name K)) (c_open_name : Cal P w K mg base 3 "open_name" (sp_open_name K)) (c_block_bytes : Cal P w K mg base 2 "block_bytes" (sp_block_bytes K)) {f : Addr} {fd : FuncData} (F : FnP K "_changed" s_changed f fd) : FnOk P w K mg base CX0 5 f fd ["letter", "key", "change_name", "change_entry", "change_blocks"] (sp_changed K) := by
  refine F.ok sc_changed (fun vs H Q E h => ?_) (fun cdv A outer s H vs Q E hr h => ?_)
  · obtain ⟨_, _, _, _, _, rfl, _⟩ := h
    rfl
  · have S := sc_changed
    refine ⟨_, PSs.nox (pss_cons (ps_set (i := 5) S.nd rfl (by first | exact .inl rfl | exact .inr rfl | exact .inr (.inl rfl) | exact .inr (.inr rfl)) (pe_ix ix_tup (pv 0) pe_int (fun _ _ => rfl)))
    (pss_cons (ps_if (pw_or (pt_cmpR op_eq (pv 5) pe_str (nomark _)) (pw_or1 (pt_cmpR op_eq (pv 5) pe_str (nomark _)))).pt
    (pss_one (ps_ret (pv 0)))
    pss_nil)
    (pss_cons (ps_if (pt_cmpR op_eq (pv 5) pe_str (nomark _))
    (pss_cons (ps_asg (pv 0) (pg_tup rfl (pgs_cons (pg_name (i := 6) S.nd rfl (by first | exact .inl rfl | exact .inr rfl | exact .inr (.inl rfl) | exact .inr (.inr rfl))) (pgs_cons (pg_name (i := 7) S.nd rfl (by first | exact .inl rfl | exact .inr rfl | exact .inr (.inl rfl) | exact .inr (.inr rfl))) (pgs_cons (pg_name (i := 8) S.nd rfl (by first | exact .inl rfl | exact .inr rfl | exact .inr (.inl rfl) | exact .inr (.inr rfl))) (pgs_cons (pg_name (i := 9) S.nd rfl (by first | exact .inl rfl | exact .inr rfl | exact .inr (.inl rfl) | exact .inr (.inr rfl))) pgs_nil))))))
      (pss_one (ps_ret (pe_tup (pa_cons (pv 5) (pa_cons (pv 7) (pa_cons (pv 8) (pa_cons (pe_callTy call_tuple_of (by rfl) T.f_tuple (by first | rfl | decide +kernel) (pa_cons (pe_lc (own := [("entry", 13), ("number", 14)]) (g := gTup K 2 (gCons (gName 13) (gCons (gName 14) gNil))) (tt := tYes) rfl S.nd (pi_tup (pv 9)) (blkOk_by (N := N_changed) (sc := defScope s_changed) (by decide +kernel)) (fun _ _ _ _ _ => (pg_tupK (n := 2) K rfl (pgs_cons (pg_name (i := 13) S.nd rfl (by first | exact .inl rfl | exact .inr rfl | exact .inr (.inl rfl) | exact .inr (.inr rfl))) (pgs_cons (pg_name (i := 14) S.nd rfl (by first | exact .inl rfl | exact .inr rfl | exact .inr (.inl rfl) | exact .inr (.inr rfl))) pgs_nil)))) (fun _ _ _ _ _ => pts_nil) (fun _ _ _ _ _ => (pe_tup (pa_cons (C8.pe_cv (i := 3) (cal_at c_seal_entry T.g_seal_entry) (cal_at c_open_entry T.g_open_entry) hr (by decide) (by decide) (by rfl) (by first | exact .inl rfl | exact .inr rfl | exact .inr (.inl rfl) | exact .inr (.inr rfl)) (pa_cons (pv 13) (pa_cons (pv 1) pa_nil))) (pa_cons (pv 14) pa_nil))))) pa_nil)) pa_nil))))))))
    pss_nil)
    (pss_cons (ps_if (pt_cmpR op_eq (pv 5) pe_str (nomark _))
    (pss_cons (ps_asg (pv 0) (pg_tup rfl (pgs_cons (pg_name (i := 6) S.nd rfl (by first | exact .inl rfl | exact .inr rfl | exact .inr (.inl rfl) | exact .inr (.inr rfl))) (pgs_cons (pg_name (i := 10) S.nd rfl (by first | exact .inl rfl | exact .inr rfl | exact .inr (.inl rfl) | exact .inr (.inr rfl))) (pgs_cons (pg_name (i := 11) S.nd rfl (by first | exact .inl rfl | exact .inr rfl | exact .inr (.inl rfl) | exact .inr (.inr rfl))) (pgs_cons (pg_name (i := 12) S.nd rfl (by first | exact .inl rfl | exact .inr rfl | exact .inr (.inl rfl) | exact .inr (.inr rfl))) pgs_nil))))))
      (pss_one (ps_ret (pe_tup (pa_cons (pv 5) (pa_cons (C8.pe_cv (i := 2) (cal_at c_seal_name T.g_seal_name) (cal_at c_open_name T.g_open_name) hr (by decide) (by decide) (by rfl) (by first | exact .inl rfl | exact .inr rfl | exact .inr (.inl rfl) | exact .inr (.inr rfl)) (pa_cons (pv 10) (pa_cons (pv 1) pa_nil))) (pa_cons (pv 11) (pa_cons (pe_ix ix_tup (C8.pe_cv (i := 4) (cal_at c_seal_blocks T.g_seal_blocks) (cal_at c_open_blocks T.g_open_blocks) hr (by decide) (by decide) (by rfl) (by first | exact .inl rfl | exact .inr rfl | exact .inr (.inl rfl) | exact .inr (.inr rfl)) (pa_cons (pe_tup (pa_cons (pv 12) pa_nil)) (pa_cons (pv 1) pa_nil))) pe_int (fun _ _ => rfl)) pa_nil))))))))
    pss_nil)
    (pss_cons (ps_set (i := 12) S.nd rfl (by first | exact .inl rfl | exact .inr rfl | exact .inr (.inl rfl) | exact .inr (.inr rfl)) (pe_ix ix_tup (C8.pe_cv (i := 4) (cal_at c_seal_blocks T.g_seal_blocks) (cal_at c_open_blocks T.g_open_blocks) hr (by decide) (by decide) (by rfl) (by first | exact .inl rfl | exact .inr rfl | exact .inr (.inl rfl) | exact .inr (.inr rfl)) (pa_cons (pe_tup (pa_cons (pe_ix ix_tup (pv 0) pe_int (fun _ _ => rfl)) pa_nil)) (pa_cons (pv 1) pa_nil))) pe_int (fun _ _ => rfl)))
    (pss_one (ps_ret (pe_ifExp (pt_cmpR op_eq (pv 5) pe_str (nomark _)) (pe_tup (pa_cons (pv 5) (pa_cons (pv 12) (pa_cons (pe_callTy call_tuple_of (by rfl) T.f_tuple (by first | rfl | decide +kernel) (pa_cons (pe_c c_block_bytes hr (by decide) (by rfl) (pa_cons (pv 12) pa_nil)) pa_nil)) pa_nil)))) (pe_tup (pa_cons (pv 5) (pa_cons (pv 12) pa_nil))))))))))), ?_⟩
    try dsimp only [cxOf, Cx.nox]
    have t : ET K := ⟨T.cl_Entry, T.no_Entry_name, T.no_Entry_vector, T.no_Entry_height, T.no_Entry_maker, T.no_Entry_deleted, T.no_Entry_time, T.no_Entry_blocks⟩
    obtain ⟨_, _, _, _, _, rfl, l, q, L, ks, m, rfl, rfl, rfl, rfl, rfl, hL, ok, hk, k⟩ := h
    walk_at "go"
    cases L with
    | hello n =>
      have hL : SqT K H l [.str "hello", .int n] := by cases m <;> exact hL
      refine e_ixT hL rfl ?_
      walk_at "go"
      walk_at "wd"
      exact k l H (Same.refl H) (by cases m <;> exact hL)
    | ask n =>
      have hL : SqT K H l [.str "ask", .int n] := by cases m <;> exact hL
      refine e_ixT hL rfl ?_
      walk_at "go"
      walk_at "wd"
      exact k l H (Same.refl H) (by cases m <;> exact hL)
    | entries b u xs =>
      obtain ⟨p, ps, hL, hp, hps⟩ := in_ent hL
      refine e_ixT hL rfl ?_
      walk_at "go"
      walk_at "wd"
      intro D hD
      have lps := paired_len hps
      rw [List.length_map] at lps
      have lx : xs.length ≤ 60 := ok.1
      refine lc_pr (walk_tup (K := K) (xs := ps.map V.ref)) hD (by rw [List.length_map]; omega) (fun H1 s1 => same_tup s1 hp) (fun H q r => PrE K H q r) (fun _ _ _ _ s h => h.same s) (fun _ _ _ _ _ _ h e => h.updE e) (xs.map fun r => (ouE m ks r.1, r.2)) (by rw [List.length_map, List.length_map]; omega) (fun i y H1 H2 C E hi s1 hy hC => ?_) (fun H1 qs s1 e1 hq => ?_)
      · obtain ⟨rfl, hx⟩ := hy
        rw [List.getElem?_map] at hx
        obtain ⟨q1, hq1, rfl⟩ := Option.map_eq_some_iff.mp hx
        obtain ⟨r, hr, a, pb, t1, t2⟩ := paired_get hps i q1 hq1
        rw [List.getElem?_map] at hr
        obtain ⟨r0, hr0, rfl⟩ := Option.map_eq_some_iff.mp hr
        have t1 := same_tup s1 t1
        have t2 := t2.same s1
        have hk2 := hk.same s1
        walk_at "go"
        refine e_cv rfl ?_
        walk_at "go"
        refine chE hk2 t2 (ok.2 r0 (List.mem_of_getElem? hr0)) fun r5 H5 s5 hE5 => ?_
        walk_at "go"
        rename_i T hT
        have s6 := same_new (o := .tup [.ref r5, .int r0.2]) hT
        exact hC _ (ouE m ks r0.1, r0.2) _ (by rw [List.getElem?_map, hr0]; rfl) (s5.trans s6) ⟨r5, pb, SqT.of upd_same, hE5.same s6⟩
      · walk_at "go"
        refine ⟨_, _, rfl, .inl ⟨SqL.of e1, fun l9 hl9 => ?_⟩⟩
        have s9 := same_new (o := .tup (qs.map V.ref)) hl9
        walk_at "go"
        rename_i T hT
        have s10 := same_new (o := .tup [.str "entries", .int b, .int u, .ref l9]) hT
        exact k T _ ((s1.trans s9).trans s10) (ou_ent ⟨l9, qs, SqT.of upd_same, SqT.of (s10 _ _ upd_same), paired_imp (fun _ _ h => (h.same s9).same s10) hq⟩)
    | request ds t i c =>
      have hL : SqT K H l [.str "request", .str (nmS (inD m ks ds) ++ t), .int i, .int (bnum (inC m ks c))] := by cases m <;> exact hL
      refine e_ixT hL rfl ?_
      walk_at "go"
      walk_at "wd"
      obtain ⟨od, ol1, ol2, ot, olt, oc⟩ := ok
      refine e_cv rfl ?_
      walk_at "go"
      refine chN hk od ol1 ol2 ot olt fun H1 s1 => ?_
      walk_at "go"
      refine e_cv rfl ?_
      walk_at "go"
      rename_i bt hbt
      have s2 := same_new (o := .tup [.int (bnum (inC m ks c))]) hbt
      refine chB (hk.same (s1.trans s2)) (SqT.of upd_same) oc fun r H3 s3 e3 => ?_
      walk_at "go"
      refine e_ixT (SqT.of e3) rfl ?_
      walk_at "go"
      rename_i T hT
      have s4 := same_new (o := .tup [.str "request", .str (nmS (ouD m ks ds) ++ t), .int i, .int (bnum (ouC m ks c))]) hT
      exact k T _ ((s1.trans s2).trans (s3.trans s4)) (by cases m <;> exact SqT.of upd_same)
    | block c =>
      obtain ⟨d, hL, hd⟩ : ∃ d, SqT K H l [.str "block", .int (bnum (inC m ks c)), .ref d] ∧ SqT K H d ((inC m ks c).map V.int) := by cases m <;> exact hL
      refine e_ixT hL rfl ?_
      walk_at "go"
      walk_at "wd"
      refine e_cv rfl ?_
      walk_at "go"
      refine e_ixT hL rfl ?_
      walk_at "go"
      rename_i bt hbt
      have s2 := same_new (o := .tup [.int (bnum (inC m ks c))]) hbt
      refine chB (hk.same s2) (SqT.of upd_same) ok fun r H3 s3 e3 => ?_
      have hPo : Piece (ouC m ks c) := by cases m; exact ok; exact mix_piece ok
      walk_at "go"
      refine e_ixT (SqT.of e3) rfl ?_
      walk_at "go"
      walk_at "wd"
      refine ⟨_, rfl, bnum (ouC m ks c), rfl, by rw [bsize_bnum hPo]; have := hPo.h1; omega, fun r4 H4 hr4 s4 e4 => ?_⟩
      rw [bbytes_bnum hPo] at e4
      walk_at "go"
      refine ⟨_, _, rfl, .inl ⟨SqL.of e4, fun l9 hl9 => ?_⟩⟩
      have s9 := same_new (o := .tup ((ouC m ks c).map V.int)) hl9
      walk_at "go"
      rename_i T hT
      have s10 := same_new (o := .tup [.str "block", .int (bnum (ouC m ks c)), .ref l9]) hT
      have hd := SqT.of (K := K) (s10 _ _ (upd_same (H := H4) (a := l9) (o := .tup ((ouC m ks c).map V.int))))
      exact k T _ ((s2.trans s3).trans ((s4.trans s9).trans s10)) (by cases m <;> exact ⟨l9, SqT.of upd_same, hd⟩)
    | refused c =>
      have hL : SqT K H l [.str "refused", .int (bnum (inC m ks c))] := by cases m <;> exact hL
      refine e_ixT hL rfl ?_
      walk_at "go"
      walk_at "wd"
      refine e_cv rfl ?_
      walk_at "go"
      refine e_ixT hL rfl ?_
      walk_at "go"
      rename_i bt hbt
      have s2 := same_new (o := .tup [.int (bnum (inC m ks c))]) hbt
      refine chB (hk.same s2) (SqT.of upd_same) ok fun r H3 s3 e3 => ?_
      have hPo : Piece (ouC m ks c) := by cases m; exact ok; exact mix_piece ok
      walk_at "go"
      refine e_ixT (SqT.of e3) rfl ?_
      walk_at "go"
      walk_at "wd"
      rename_i T hT
      have s10 := same_new (o := .tup [.str "refused", .int (bnum (ouC m ks c))]) hT
      exact k T _ ((s2.trans s3).trans s10) (by cases m <;> exact SqT.of upd_same)
theorem ok_law_draws (T : Txt K mg)   {f : Addr} {fd : FuncData} (F : FnP K "_law_draws" s_law_draws f fd) : FnOk P w K mg base CX0 1 f fd ["script"] (sp_law_draws K) := by
  refine F.ok sc_law_draws (fun vs H Q E h => ?_) (fun cdv A outer s H vs Q E hr h => ?_)
  · obtain ⟨_, rfl, _⟩ := h
    rfl
  · have S := sc_law_draws
    refine ⟨_, PSs.nox (pss_one (ps_ret (pe_lst (pa_cons (pe_callTy call_list_of (by rfl) T.f_list (by first | rfl | decide +kernel) (pa_cons (pv 0) pa_nil)) (pa_cons pe_int (pa_cons pe_int (pa_cons pe_int pa_nil))))))), ?_⟩
    try dsimp only [cxOf, Cx.nox]
    obtain ⟨_, rfl, sa, ns, rfl, hS, hl, k⟩ := h
    walk_at "go"
    intro l hl2
    walk_at "go"
    rename_i p hp
    have s1 := same_new (o := .lst (ns.map V.int)) hl2
    have s2 := same_new (o := .lst [V.ref l, V.int 0, V.int 0, V.int 1]) hp
    have np : l ≠ p := fun e => by
      rw [← e, upd_same] at hp
      cases hp
    exact k p l _ (s1.free hp) (s1.trans s2) ⟨⟨0, 0, 1, by decide, by decide, by decide, upd_same⟩, by rw [upd_ne np]; exact upd_same, np, hl⟩
theorem ok_law_draw (T : Txt K mg)   {f : Addr} {fd : FuncData} (F : FnP K "_law_draw" s_law_draw f fd) : FnOk P w K mg base CX0 1 f fd ["draws", "limit"] (sp_law_draw K) := by
  refine F.ok sc_law_draw (fun vs H Q E h => ?_) (fun cdv A outer s H vs Q E hr h => ?_)
  · obtain ⟨_, _, rfl, _⟩ := h
    rfl
  · have S := sc_law_draw
    refine ⟨_, PSs.nox (C8.pss_cut (ps_if (pw_and (pt_cmpR op_eq (pe_ix ix_list (pv 0) pe_int (fun _ _ => rfl)) pe_int (nomark _)) (pw_and1 (pt_cmpR op_lt (pe_ix ix_list (pv 0) pe_int (fun _ _ => rfl)) (pe_callB call_len_seq (by rfl) T.f_len (by first | rfl | decide +kernel) (pa_cons (pe_ix ix_list (pv 0) pe_int (fun _ _ => rfl)) pa_nil)) (nomark _)))).pt
    (pss_cons (ps_set (i := 2) S.nd rfl (by first | exact .inl rfl | exact .inr rfl | exact .inr (.inl rfl) | exact .inr (.inr rfl)) (pe_callB call_abs (by rfl) T.f_abs (by first | rfl | decide +kernel) (pa_cons (pe_callTy call_int1 (by rfl) T.f_int (by first | rfl | decide +kernel) (pa_cons (pe_ix ix_list (pe_ix ix_list (pv 0) pe_int (fun _ _ => rfl)) (pe_ix ix_list (pv 0) pe_int (fun _ _ => rfl)) (fun _ _ => rfl)) pa_nil)) pa_nil)))
      (pss_cons (ps_asg (pe_op op_add (pe_ix ix_list (pv 0) pe_int (fun _ _ => rfl)) pe_int) (pg_sub (pv 0) pe_int set_list))
      (C8.pss_cut (ps_if (pt_cmpR op_ge (pv 2) (pe_op op_pow pe_int pe_int) (nomark _))
      (pss_one (ps_asg (pv 2) (pg_sub (pv 0) pe_int set_list)))
      pss_nil)
      (pss_one (ps_asg (pe_op op_mod (pe_callTy call_int1 (by rfl) T.f_int (by first | rfl | decide +kernel) (pa_cons (pe_op op_add (pe_op op_add (pe_op op_mul (pe_ix ix_list (pv 0) pe_int (fun _ _ => rfl)) pe_int) (pv 2)) pe_int) pa_nil)) pe_int) (pg_sub (pv 0) pe_int set_list))))))
    pss_nil)
    (pss_cons (ps_if (pt_cmpR op_gt (pe_ix ix_list (pv 0) pe_int (fun _ _ => rfl)) pe_int (nomark _))
    (pss_cons (ps_set (i := 3) S.nd rfl (by first | exact .inl rfl | exact .inr rfl | exact .inr (.inl rfl) | exact .inr (.inr rfl)) (pe_op op_mod (pe_callTy call_int1 (by rfl) T.f_int (by first | rfl | decide +kernel) (pa_cons (pe_ix ix_list (pv 0) pe_int (fun _ _ => rfl)) pa_nil)) (pv 1)))
      (pss_cons (ps_asg (pe_op op_fdivW (pe_ix ix_list (pv 0) pe_int (fun _ _ => rfl)) (pv 1)) (pg_sub (pv 0) pe_int set_list))
      (pss_one (ps_ret (pv 3)))))
    pss_nil)
    (pss_cons (ps_asg (pe_op op_mod (pe_callTy call_int1 (by rfl) T.f_int (by first | rfl | decide +kernel) (pa_cons (pe_op op_add (pe_op op_mul (pe_ix ix_list (pv 0) pe_int (fun _ _ => rfl)) pe_int) pe_int) pa_nil)) pe_int) (pg_sub (pv 0) pe_int set_list))
    (pss_one (ps_ret (pe_op op_mod (pe_callTy call_int1 (by rfl) T.f_int (by first | rfl | decide +kernel) (pa_cons (pe_op op_fdivW (pe_ix ix_list (pv 0) pe_int (fun _ _ => rfl)) pe_int) pa_nil)) (pv 1))))))), ?_⟩
    try dsimp only [cxOf, Cx.nox]
    obtain ⟨_, _, rfl, st, sc, ns, n, rfl, rfl, d, hn0, hn1, k⟩ := h
    obtain ⟨ia, ib, ic, ha0, hb0, hc0, hs⟩ := d.s
    have h1 : ∀ (x y z : Int), 0 ≤ x → 0 ≤ y → 0 ≤ z → z < 2147483647 → Kp st H (upd H st (.lst [.ref sc, .int x, .int y, .int z])) ∧ Dw K st sc ns (upd H st (.lst [.ref sc, .int x, .int y, .int z])) := fun x y z hx hy hz hz2 =>
      have k1 : Kp st H (upd H st (.lst [.ref sc, .int x, .int y, .int z])) := Kp.put (Kp.refl st H)
      ⟨k1, d.kp k1 ⟨x, y, z, hx, hy, ⟨hz, hz2⟩, upd_same⟩⟩
    have hS : SqL K H sc (ns.map V.int) := SqL.of d.l
    have md : ∀ x : Int, 0 ≤ x % 2147483647 ∧ x % 2147483647 < 2147483647 := fun x => ⟨Int.emod_nonneg _ (by decide), Int.emod_lt_of_pos _ (by decide)⟩
    have md2 : ∀ x : Int, 0 ≤ x % 2147483629 ∧ x % 2147483629 < 2147483629 := fun x => ⟨Int.emod_nonneg _ (by decide), Int.emod_lt_of_pos _ (by decide)⟩
    refine e_cut (Mid := fun σ' H' => ∃ (v2 : Option V), σ' = [some (.ref st), some (.int n), v2, none] ∧ Kp st H H' ∧ Dw K st sc ns H') ?_ ?_
    · walk_at "go"
      refine e_ixL (SqL.of hs) rfl ?_
      walk_at "go"
      refine i_d (fun e1 => ?_) (fun e1 => ?_)
      · walk_at "go"
        refine e_ixL (SqL.of hs) rfl ?_
        walk_at "go"
        refine e_ixL (SqL.of hs) rfl ?_
        walk_at "go"
        refine i_d (fun e2 => ?_) (fun e2 => ?_)
        · obtain ⟨j, hj⟩ : ∃ j : Nat, ia = (j : Int) := ⟨ia.toNat, by omega⟩
          have hlt : j < ns.length := by rw [List.length_map] at e2; omega
          have hat : atI (ns.map V.int) ia = some (.int ns[j]) := at_of (j := j) (by omega) (by rw [List.getElem?_map, List.getElem?_eq_getElem hlt]; rfl)
          generalize ns[j] = x at hat
          walk_at "go"
          refine e_ixL (SqL.of hs) rfl ?_
          walk_at "go"
          refine e_ixL (SqL.of hs) rfl ?_
          walk_at "go"
          refine e_ixL hS hat ?_
          walk_at "go"
          have hcell : ∃ c : Int, 0 ≤ c ∧ c = (if x < 0 then -x else x) := ⟨_, by split <;> omega, rfl⟩
          obtain ⟨c, hc, ec⟩ := hcell
          rw [← ec]
          refine e_ixL (SqL.of hs) rfl ?_
          walk_at "go"
          refine e_setL hs rfl ?_
          refine e_cut (Mid := fun σ' H' => ∃ b : Int, 0 ≤ b ∧ σ' = [some (.ref st), some (.int n), some (.int c), none] ∧ H' = upd H st (.lst [.ref sc, .int (ia + 1), .int b, .int ic])) ?_ ?_
          · walk_at "go"
            refine i_d (fun e3 => ?_) (fun e3 => ?_)
            · walk_at "go"
              refine e_setL upd_same rfl ?_
              rw [upd_upd]
              exact ⟨c, hc, rfl, rfl⟩
            · walk_at "go"
              exact ⟨ib, hb0, rfl, rfl⟩
          · rintro σ' H' ⟨b, hb, rfl, rfl⟩
            walk_at "go"
            refine e_ixL (SqL.of upd_same) rfl ?_
            walk_at "go"
            refine e_setL upd_same rfl ?_
            rw [upd_upd]
            have hm := md (ic * 48271 + c + 13)
            obtain ⟨k1, d1⟩ := h1 (ia + 1) b _ (by omega) hb hm.1 hm.2
            exact ⟨_, rfl, k1, d1⟩
        · walk_at "go"
          exact ⟨_, rfl, Kp.refl _ _, d⟩
      · walk_at "go"
        exact ⟨_, rfl, Kp.refl _ _, d⟩
    · rintro σ' H' ⟨v2, rfl, k1, d1⟩
      obtain ⟨ja, jb, jc, hja, hjb, hjc, hs1⟩ := d1.s
      walk_at "go"
      refine e_ixL (SqL.of hs1) rfl ?_
      walk_at "go"
      refine i_d (fun e1 => ?_) (fun e1 => ?_)
      · walk_at "go"
        refine e_ixL (SqL.of hs1) rfl ?_
        walk_at "go"
        refine e_ixL (SqL.of hs1) rfl ?_
        walk_at "go"
        refine e_setL hs1 rfl ?_
        have hj2 : 0 ≤ jb / n := Int.ediv_nonneg hjb (by omega)
        have k2 : Kp st H (upd H' st (.lst [.ref sc, .int ja, .int (jb / n), .int jc])) := k1.put
        walk_at "go"
        exact k _ _ (Int.emod_nonneg _ (by omega)) (Int.emod_lt_of_pos _ hn0) k2 (d.kp k2 ⟨ja, jb / n, jc, hja, hj2, hjc, upd_same⟩)
      · walk_at "go"
        refine e_ixL (SqL.of hs1) rfl ?_
        walk_at "go"
        refine e_setL hs1 rfl ?_
        have hm := md2 (jc * 69621 + 7)
        have k2 : Kp st H (upd H' st (.lst [.ref sc, .int ja, .int jb, .int ((jc * 69621 + 7) % 2147483629)])) := k1.put
        walk_at "go"
        refine e_ixL (SqL.of upd_same) rfl ?_
        walk_at "go"
        exact k _ _ (Int.emod_nonneg _ (by omega)) (Int.emod_lt_of_pos _ hn0) k2 (d.kp k2 ⟨ja, jb, _, hja, hjb, ⟨hm.1, by omega⟩, upd_same⟩)
theorem ok_law_key (T : Txt K mg)  (c_law_draw : Cal P w K mg base 1 "_law_draw" (sp_law_draw K)) {f : Addr} {fd : FuncData} (F : FnP K "_law_key" s_law_key f fd) : FnOk P w K mg base CX0 2 f fd ["draws"] (sp_law_key K) := by
  refine F.ok sc_law_key (fun vs H Q E h => ?_) (fun cdv A outer s H vs Q E hr h => ?_)
  · obtain ⟨_, rfl, _⟩ := h
    rfl
  · have S := sc_law_key
    refine ⟨_, PSs.nox (pss_one (ps_ret (pe_callTy call_tuple_of (by rfl) T.f_tuple (by first | rfl | decide +kernel) (pa_cons (pe_lc (own := [("k", 1)]) (g := gName 1) (tt := tYes) rfl S.nd (pi_range1 (by rfl) T.f_range (pa_cons pe_int pa_nil)) (blkOk_by (N := N_law_key) (sc := defScope s_law_key) (by decide +kernel)) (fun _ _ _ _ _ => (pg_name (i := 1) S.nd rfl (by first | exact .inl rfl | exact .inr rfl | exact .inr (.inl rfl) | exact .inr (.inr rfl)))) (fun _ _ _ _ _ => pts_nil) (fun _ _ _ _ _ => (pe_ix (ixL K) (pe_lst (pa_cons pe_int (pa_cons pe_int (pa_cons pe_int (pa_cons (pe_c c_law_draw hr (by decide) (by rfl) (pa_cons (pv 0) (pa_cons pe_int pa_nil))) pa_nil))))) (pe_c c_law_draw hr (by decide) (by rfl) (pa_cons (pv 0) (pa_cons pe_int pa_nil))) (fun _ _ => rfl)))) pa_nil)))), ?_⟩
    try dsimp only [cxOf, Cx.nox]
    obtain ⟨_, rfl, st, sc, ns, rfl, d, k⟩ := h
    walk_at "go"
    intro D hD
    rw [show Int.toNat 8 = 8 from rfl]
    refine lc_dw d hD (by decide) (fun v => ∃ i, v = .int i ∧ (0 ≤ i ∧ i ≤ 4294967295)) (fun i H2 C E hi k2 d2 hC => ?_) (fun H2 xs k2 d2 e2 l2 h2 => ?_)
    · walk_at "go"
      refine ⟨_, _, rfl, st, sc, ns, _, rfl, rfl, d2, by decide, by decide, fun x H3 x0 x1 k3 d3 => ?_⟩
      walk_at "go"
      rename_i u hu
      refine ⟨_, _, rfl, st, sc, ns, _, rfl, rfl, d3.same (same_new hu), by decide, by decide, fun y H4 y0 y1 k4 d4 => ?_⟩
      walk_at "go"
      have nu := d3.free hu
      have e4 := k4 _ _ nu upd_same
      have kk : Kp st H2 H4 := (k3.trans (Kp.new hu)).trans k4
      have hy : y = 0 ∨ y = 1 ∨ y = 2 ∨ y = 3 := by omega
      rcases hy with rfl | rfl | rfl | rfl
      · exact e_ixL (SqL.of e4) rfl (hC _ _ kk d4 ⟨_, rfl, by omega⟩)
      · exact e_ixL (SqL.of e4) rfl (hC _ _ kk d4 ⟨_, rfl, by omega⟩)
      · exact e_ixL (SqL.of e4) rfl (hC _ _ kk d4 ⟨_, rfl, by omega⟩)
      · exact e_ixL (SqL.of e4) rfl (hC _ _ kk d4 ⟨_, rfl, by omega⟩)
    · obtain ⟨ks, rfl, hks⟩ := ints_of (n := 0) h2
      walk_at "go"
      rw [List.length_map] at l2
      refine ⟨D, _, rfl, .inl ⟨SqL.of e2, fun l hl2 => ?_⟩⟩
      exact k l ks _ (k2.free d2.some hl2) (k2.trans (Kp.new hl2)) (d2.same (same_new hl2)) upd_same ⟨l2, hks⟩
theorem ok_law_user_name (T : Txt K mg)  (c_law_draw : Cal P w K mg base 1 "_law_draw" (sp_law_draw K)) {f : Addr} {fd : FuncData} (F : FnP K "_law_user_name" s_law_user_name f fd) : FnOk P w K mg base CX0 2 f fd ["draws"] (sp_law_user_name K) := by
  refine F.ok sc_law_user_name (fun vs H Q E h => ?_) (fun cdv A outer s H vs Q E hr h => ?_)
  · obtain ⟨_, rfl, _⟩ := h
    rfl
  · have S := sc_law_user_name
    refine ⟨_, PSs.nox (pss_cons (ps_set (i := 1) S.nd rfl (by first | exact .inl rfl | exact .inr rfl | exact .inr (.inl rfl) | exact .inr (.inr rfl)) pe_str)
    (pss_cons (ps_set (i := 2) S.nd rfl (by first | exact .inl rfl | exact .inr rfl | exact .inr (.inl rfl) | exact .inr (.inr rfl)) (pe_ix ix_list (pe_lst (pa_cons pe_int (pa_cons pe_int (pa_cons pe_int (pa_cons pe_int (pa_cons pe_int pa_nil)))))) (pe_c c_law_draw hr (by decide) (by rfl) (pa_cons (pv 0) (pa_cons pe_int pa_nil))) (fun _ _ => rfl)))
    (pss_one (ps_ret (pe_join pe_str (pe_lc (own := [("k", 3)]) (g := gName 3) (tt := tYes) rfl S.nd (pi_range1 (by rfl) T.f_range (pa_cons (pv 2) pa_nil)) (blkOk_by (N := N_law_user_name) (sc := defScope s_law_user_name) (by decide +kernel)) (fun _ _ _ _ _ => (pg_name (i := 3) S.nd rfl (by first | exact .inl rfl | exact .inr rfl | exact .inr (.inl rfl) | exact .inr (.inr rfl)))) (fun _ _ _ _ _ => pts_nil) (fun _ _ _ _ _ => (pe_ix ix_str (pv 1) (pe_c c_law_draw hr (by decide) (by rfl) (pa_cons (pv 0) (pa_cons pe_int pa_nil))) (fun _ _ => rfl))))))))), ?_⟩
    try dsimp only [cxOf, Cx.nox]
    obtain ⟨_, rfl, st, sc, ns, rfl, d, k⟩ := h
    walk_at "go"
    rename_i u hu
    refine ⟨_, _, rfl, st, sc, ns, _, rfl, rfl, d.same (same_new hu), by decide, by decide, fun y H4 y0 y1 k4 d4 => ?_⟩
    have e4 := k4 _ _ (d.free hu) upd_same
    have kk : Kp st H H4 := (Kp.new hu).trans k4
    walk_at "go"
    obtain ⟨m, hm, hat⟩ := pick_int (l := [1, 2, 3, 8, 27]) y0 y1
    have m2 : 1 ≤ m ∧ m ≤ 27 := by
      have : ∀ x ∈ ([1, 2, 3, 8, 27] : List Int), 1 ≤ x ∧ x ≤ 27 := by decide
      exact this m hm
    refine e_ixL (SqL.of e4) hat ?_
    walk_at "go"
    intro D hD
    refine lc_dw d4 hD (by omega) (fun v => ∃ d, v = .str (oneS d) ∧ (0 ≤ d ∧ d < 66)) (fun i H2 C E hi k2 d2 hC => ?_) (fun H2 xs k2 d2 e2 l2 h2 => ?_)
    · walk_at "go"
      refine ⟨_, _, rfl, st, sc, ns, _, rfl, rfl, d2, by decide, by decide, fun x H3 x0 x1 k3 d3 => ?_⟩
      refine e_ixS (by decide +kernel) (letr_at2 ⟨x0, x1⟩) ?_
      exact hC _ _ k3 d3 ⟨x, rfl, x0, x1⟩
    · obtain ⟨ds, rfl, hds⟩ := strs_of h2
      rw [List.length_map, List.length_map] at l2
      refine ⟨_, D, ds.map oneS, rfl, rfl, .inl (SqL.of e2), ?_, ?_⟩
      · rw [one_sum, show (Str.ofString "").length = 0 by decide +kernel]
        omega
      · rw [join_one]
        exact k ds H2 hds (by omega) (by omega) (kk.trans k2) d2
theorem ok_law_any_name (T : Txt K mg)  (c_law_user_name : Cal P w K mg base 2 "_law_user_name" (sp_law_user_name K)) (c_law_draw : Cal P w K mg base 1 "_law_draw" (sp_law_draw K)) {f : Addr} {fd : FuncData} (F : FnP K "_law_any_name" s_law_any_name f fd) : FnOk P w K mg base CX0 3 f fd ["draws"] (sp_law_any_name K) := by
  refine F.ok sc_law_any_name (fun vs H Q E h => ?_) (fun cdv A outer s H vs Q E hr h => ?_)
  · obtain ⟨_, rfl, _⟩ := h
    rfl
  · have S := sc_law_any_name
    refine ⟨_, PSs.nox (pss_cons (ps_set (i := 1) S.nd rfl (by first | exact .inl rfl | exact .inr rfl | exact .inr (.inl rfl) | exact .inr (.inr rfl)) (pe_c c_law_user_name hr (by decide) (by rfl) (pa_cons (pv 0) pa_nil)))
    (C8.pss_cut (ps_if (pt_cmpR op_eq (pe_c c_law_draw hr (by decide) (by rfl) (pa_cons (pv 0) (pa_cons pe_int pa_nil))) pe_int (nomark _))
    (pss_one (ps_set (i := 1) S.nd rfl (by first | exact .inl rfl | exact .inr rfl | exact .inr (.inl rfl) | exact .inr (.inr rfl)) (pe_op op_add_str (pe_op op_add_str (pe_op op_add_str (pe_op op_add_str (pv 1) pe_str) (pe_callTy call_str_int (by rfl) T.f_str (by first | rfl | decide +kernel) (pa_cons (pe_op op_add pe_int (pe_c c_law_draw hr (by decide) (by rfl) (pa_cons (pv 0) (pa_cons pe_int pa_nil)))) pa_nil))) pe_str) (pe_callTy call_str_int (by rfl) T.f_str (by first | rfl | decide +kernel) (pa_cons (pe_op op_add pe_int (pe_c c_law_draw hr (by decide) (by rfl) (pa_cons (pv 0) (pa_cons pe_int pa_nil)))) pa_nil)))))
    pss_nil)
    (pss_one (ps_ret (pv 1))))), ?_⟩
    try dsimp only [cxOf, Cx.nox]
    obtain ⟨_, rfl, st, sc, ns, rfl, d, k⟩ := h
    walk_at "go"
    refine ⟨_, rfl, st, sc, ns, rfl, d, fun ds H1 hd h1 h2 k1 d1 => ?_⟩
    walk_at "go"
    refine e_cut (Mid := fun σ' H' => ∃ t, Tail t ∧ t.length ≤ 100 ∧ σ' = [some (.ref st), some (.str (nmS ds ++ t))] ∧ Kp st H H' ∧ Dw K st sc ns H') ?_ ?_
    · walk_at "go"
      refine ⟨_, _, rfl, st, sc, ns, _, rfl, rfl, d1, by decide, by decide, fun x H2 x0 x1 k2 d2 => ?_⟩
      walk_at "go"
      refine i_d (fun h0 => ?_) (fun h0 => ?_)
      · walk_at "go"
        refine ⟨_, _, rfl, rfl, sz_of (by rw [nmS_len, show (Str.ofString "~").length = 1 by decide +kernel]; omega), ?_⟩
        walk_at "go"
        refine ⟨_, _, rfl, st, sc, ns, _, rfl, rfl, d2, by decide, by decide, fun a H3 a0 a1 k3 d3 => ?_⟩
        walk_at "go"
        have la := num_len (i := 1 + a) (by omega) (by omega)
        refine ⟨lg1 (by omega) (by omega), ?_⟩
        refine ⟨_, _, rfl, rfl, sz_of (by rw [len_app, nmS_len, show (Str.ofString "~").length = 1 by decide +kernel]; omega), ?_⟩
        walk_at "go"
        refine ⟨_, _, rfl, rfl, sz_of (by rw [len_app, len_app, nmS_len, show (Str.ofString "~").length = 1 by decide +kernel, show (Str.ofString "-").length = 1 by decide +kernel]; omega), ?_⟩
        walk_at "go"
        refine ⟨_, _, rfl, st, sc, ns, _, rfl, rfl, d3, by decide, by decide, fun b H4 b0 b1 k4 d4 => ?_⟩
        walk_at "go"
        have lb := num_len (i := 1 + b) (by omega) (by omega)
        refine ⟨lg1 (by omega) (by omega), ?_⟩
        refine ⟨_, _, rfl, rfl, sz_of (by rw [len_app, len_app, len_app, nmS_len, show (Str.ofString "~").length = 1 by decide +kernel, show (Str.ofString "-").length = 1 by decide +kernel]; omega), ?_⟩
        walk_at "go"
        refine ⟨Str.ofString "~" ++ (Str.ofString (toString (1 + a)) ++ (Str.ofString "-" ++ Str.ofString (toString (1 + b)))), .inr ⟨_, rfl⟩, ?_, ?_, ((k1.trans k2).trans k3).trans k4, d4⟩
        · rw [len_app, len_app, len_app, show (Str.ofString "~").length = 1 by decide +kernel, show (Str.ofString "-").length = 1 by decide +kernel]
          omega
        · rw [← str_assoc, ← str_assoc, ← str_assoc]
          rfl
      · walk_at "go"
        exact ⟨Str.empty, .inl rfl, by decide, by rw [app_empty]; rfl, k1.trans k2, d2⟩
    · rintro σ' H' ⟨t, ht, hl, rfl, k2, d2⟩
      walk_at "go"
      exact k ds t H' hd h1 h2 ht hl k2 d2
theorem ok_law_bytes (T : Txt K mg)  (c_law_draw : Cal P w K mg base 1 "_law_draw" (sp_law_draw K)) {f : Addr} {fd : FuncData} (F : FnP K "_law_bytes" s_law_bytes f fd) : FnOk P w K mg base CX0 2 f fd ["draws"] (sp_law_bytes K) := by
  refine F.ok sc_law_bytes (fun vs H Q E h => ?_) (fun cdv A outer s H vs Q E hr h => ?_)
  · obtain ⟨_, rfl, _⟩ := h
    rfl
  · have S := sc_law_bytes
    refine ⟨_, PSs.nox (pss_cons (ps_set (i := 1) S.nd rfl (by first | exact .inl rfl | exact .inr rfl | exact .inr (.inl rfl) | exact .inr (.inr rfl)) (pe_ix ix_list (pe_lst (pa_cons pe_int (pa_cons pe_int (pa_cons pe_int (pa_cons pe_int (pa_cons pe_int (pa_cons pe_int (pa_cons pe_int (pa_cons pe_int (pa_cons pe_int pa_nil)))))))))) (pe_c c_law_draw hr (by decide) (by rfl) (pa_cons (pv 0) (pa_cons pe_int pa_nil))) (fun _ _ => rfl)))
    (pss_one (ps_ret (pe_lc (own := [("k", 2)]) (g := gName 2) (tt := tYes) rfl S.nd (pi_range1 (by rfl) T.f_range (pa_cons (pv 1) pa_nil)) (blkOk_by (N := N_law_bytes) (sc := defScope s_law_bytes) (by decide +kernel)) (fun _ _ _ _ _ => (pg_name (i := 2) S.nd rfl (by first | exact .inl rfl | exact .inr rfl | exact .inr (.inl rfl) | exact .inr (.inr rfl)))) (fun _ _ _ _ _ => pts_nil) (fun _ _ _ _ _ => (pe_ix (ixL K) (pe_lst (pa_cons pe_int (pa_cons pe_int (pa_cons (pe_c c_law_draw hr (by decide) (by rfl) (pa_cons (pv 0) (pa_cons pe_int pa_nil))) pa_nil)))) (pe_c c_law_draw hr (by decide) (by rfl) (pa_cons (pv 0) (pa_cons pe_int pa_nil))) (fun _ _ => rfl))))))), ?_⟩
    try dsimp only [cxOf, Cx.nox]
    obtain ⟨_, rfl, st, sc, ns, rfl, d, k⟩ := h
    walk_at "go"
    rename_i u hu
    refine ⟨_, _, rfl, st, sc, ns, _, rfl, rfl, d.same (same_new hu), by decide, by decide, fun y H4 y0 y1 k4 d4 => ?_⟩
    have e4 := k4 _ _ (d.free hu) upd_same
    have kk : Kp st H H4 := (Kp.new hu).trans k4
    walk_at "go"
    obtain ⟨m, hm, hat⟩ := pick_int (l := [0, 1, 2, 3, 4, 5, 7, 8, 13]) y0 y1
    have m2 : 0 ≤ m ∧ m ≤ 13 := by
      have : ∀ x ∈ ([0, 1, 2, 3, 4, 5, 7, 8, 13] : List Int), 0 ≤ x ∧ x ≤ 13 := by decide
      exact this m hm
    refine e_ixL (SqL.of e4) hat ?_
    walk_at "go"
    intro D hD
    refine lc_dw d4 hD (by omega) (fun v => ∃ i, v = .int i ∧ (0 ≤ i ∧ i < 256)) (fun i H2 C E hi k2 d2 hC => ?_) (fun H2 xs k2 d2 e2 l2 h2 => ?_)
    · walk_at "go"
      refine ⟨_, _, rfl, st, sc, ns, _, rfl, rfl, d2, by decide, by decide, fun x H3 x0 x1 k3 d3 => ?_⟩
      walk_at "go"
      rename_i w hw
      refine ⟨_, _, rfl, st, sc, ns, _, rfl, rfl, d3.same (same_new hw), by decide, by decide, fun z H5 z0 z1 k5 d5 => ?_⟩
      walk_at "go"
      have e5 := k5 _ _ (d3.free hw) upd_same
      have kk5 : Kp st H2 H5 := (k3.trans (Kp.new hw)).trans k5
      have hy : z = 0 ∨ z = 1 ∨ z = 2 := by omega
      rcases hy with rfl | rfl | rfl
      · exact e_ixL (SqL.of e5) rfl (hC _ _ kk5 d5 ⟨_, rfl, by omega⟩)
      · exact e_ixL (SqL.of e5) rfl (hC _ _ kk5 d5 ⟨_, rfl, by omega⟩)
      · exact e_ixL (SqL.of e5) rfl (hC _ _ kk5 d5 ⟨_, rfl, by omega⟩)
    · obtain ⟨bs, rfl, hbs⟩ := ints_of (n := 0) h2
      rw [List.length_map] at l2
      exact k D bs H2 hbs (by omega) (kk.free d4.some hD) (kk.trans k2) d2 e2
theorem ok_law_entry (T : Txt K mg) (c_Entry : C8.Mak P w K mg base 1 "Entry" (He.ga K "Entry") (sp_Entry___init__ K) [])  (c_law_draw : Cal P w K mg base 1 "_law_draw" (sp_law_draw K)) (c_law_bytes : Cal P w K mg base 2 "_law_bytes" (sp_law_bytes K)) (c_split : Cal P w K mg base 2 "split" (sp_split K)) {f : Addr} {fd : FuncData} (F : FnP K "_law_entry" s_law_entry f fd) : FnOk P w K mg base CX0 3 f fd ["draws", "name"] (sp_law_entry K) := by
  refine F.ok sc_law_entry (fun vs H Q E h => ?_) (fun cdv A outer s H vs Q E hr h => ?_)
  · obtain ⟨_, _, rfl, _⟩ := h
    rfl
  · have S := sc_law_entry
    refine ⟨_, PSs.nox (pss_cons (ps_set (i := 2) S.nd rfl (by first | exact .inl rfl | exact .inr rfl | exact .inr (.inl rfl) | exact .inr (.inr rfl)) (pe_callTy call_tupleF (by rfl) T.f_tuple (by first | rfl | decide +kernel) (pa_cons (pe_op op_cat (pe_lc (own := [("device", 5)]) (g := gName 5) rfl S.nd (pi_tup (pe_tup (pa_cons pe_int (pa_cons pe_int (pa_cons pe_int pa_nil))))) (blkOk_by (N := N_law_entry) (sc := defScope s_law_entry) (by decide +kernel)) (fun _ _ _ _ _ => (pg_name (i := 5) S.nd rfl (by first | exact .inl rfl | exact .inr rfl | exact .inr (.inl rfl) | exact .inr (.inr rfl)))) (fun _ _ _ _ _ => (pts_one (pt_cmpR op_eq (pe_c c_law_draw hr (by decide) (by rfl) (pa_cons (pv 0) (pa_cons pe_int pa_nil))) pe_int (nomark _)))) (fun _ _ _ _ _ => (pe_tup (pa_cons (pv 5) (pa_cons (pe_op op_add pe_int (pe_c c_law_draw hr (by decide) (by rfl) (pa_cons (pv 0) (pa_cons pe_int pa_nil)))) pa_nil))))) (pe_lst (pa_cons (pe_tup (pa_cons pe_int (pa_cons (pe_op op_add pe_int (pe_c c_law_draw hr (by decide) (by rfl) (pa_cons (pv 0) (pa_cons pe_int pa_nil)))) pa_nil))) pa_nil))) pa_nil)))
    (pss_cons (ps_set (i := 2) S.nd rfl (by first | exact .inl rfl | exact .inr rfl | exact .inr (.inl rfl) | exact .inr (.inr rfl)) (pe_callTy call_tupleF (by rfl) T.f_tuple (by first | rfl | decide +kernel) (pa_cons (pe_callB cr_sortedPT (by rfl) T.f_sorted (by first | rfl | decide +kernel) (pa_cons (pv 2) pa_nil)) pa_nil)))
    (pss_cons (ps_set (i := 3) S.nd rfl (by first | exact .inl rfl | exact .inr rfl | exact .inr (.inl rfl) | exact .inr (.inr rfl)) (pe_tup (pa_cons (pe_op op_add pe_int (pe_c c_law_draw hr (by decide) (by rfl) (pa_cons (pv 0) (pa_cons pe_int pa_nil)))) (pa_cons (pe_op op_add pe_int (pe_c c_law_draw hr (by decide) (by rfl) (pa_cons (pv 0) (pa_cons pe_int pa_nil)))) pa_nil))))
    (pss_cons (ps_if (pt_cmpR op_eq (pe_c c_law_draw hr (by decide) (by rfl) (pa_cons (pv 0) (pa_cons pe_int pa_nil))) pe_int (nomark _))
    (pss_one (ps_ret (C8.pe_mk c_Entry hr (by decide) (by rfl) (pa_cons (pv 1) (pa_cons (pv 2) (pa_cons (pe_op op_add pe_int (pe_c c_law_draw hr (by decide) (by rfl) (pa_cons (pv 0) (pa_cons pe_int pa_nil)))) (pa_cons (pv 3) (pa_cons pe_bl (pa_cons (pe_c c_law_draw hr (by decide) (by rfl) (pa_cons (pv 0) (pa_cons pe_int pa_nil))) (pa_cons (pe_tup pa_nil) pa_nil))))))))))
    pss_nil)
    (pss_cons (ps_set (i := 4) S.nd rfl (by first | exact .inl rfl | exact .inr rfl | exact .inr (.inl rfl) | exact .inr (.inr rfl)) (pe_ix ix_list (pe_lst (pa_cons (pe_lst (pa_cons pe_int pa_nil)) (pa_cons (pe_lst (pa_cons pe_int (pa_cons pe_int pa_nil))) (pa_cons (pe_lst pa_nil) (pa_cons (pe_lst (pa_cons pe_int (pa_cons pe_int (pa_cons pe_int (pa_cons pe_int (pa_cons pe_int pa_nil)))))) (pa_cons (pe_c c_law_bytes hr (by decide) (by rfl) (pa_cons (pv 0) pa_nil)) pa_nil)))))) (pe_c c_law_draw hr (by decide) (by rfl) (pa_cons (pv 0) (pa_cons pe_int pa_nil))) (fun _ _ => rfl)))
    (pss_one (ps_ret (C8.pe_mk c_Entry hr (by decide) (by rfl) (pa_cons (pv 1) (pa_cons (pv 2) (pa_cons (pe_op op_add pe_int (pe_c c_law_draw hr (by decide) (by rfl) (pa_cons (pv 0) (pa_cons pe_int pa_nil)))) (pa_cons (pv 3) (pa_cons pe_bl (pa_cons (pe_c c_law_draw hr (by decide) (by rfl) (pa_cons (pv 0) (pa_cons pe_int pa_nil))) (pa_cons (pe_c c_split hr (by decide) (by rfl) (pa_cons (pv 4) pa_nil)) pa_nil))))))))))))))), ?_⟩
    try dsimp only [cxOf, Cx.nox]
    have t : ET K := ⟨T.cl_Entry, T.no_Entry_name, T.no_Entry_vector, T.no_Entry_height, T.no_Entry_maker, T.no_Entry_deleted, T.no_Entry_time, T.no_Entry_blocks⟩
    obtain ⟨_, _, rfl, st, sc, ns, ds, t0, rfl, rfl, d, hd, l1, l2, ht, lt, k⟩ := h
    walk_at "go"
    rename_i p0 hp0
    have s0 := same_new (o := .tup [.int 1, .int 3, .int 9]) hp0
    have d0 := d.same s0
    have np0 : p0 ≠ st := d.free hp0
    have ep0 := upd_same (H := H) (a := p0) (o := .tup [.int 1, .int 3, .int 9])
    generalize upd H p0 (.tup [.int 1, .int 3, .int 9]) = H0 at s0 d0 ep0 ⊢
    intro D hD
    have nD := d0.free hD
    refine lc_tup (K := K) (xs := [.int 1, .int 3, .int 9]) (fun i H2 => Kp st H0 H2 ∧ Dw K st sc ns H2 ∧ ∃ (qs : List Addr) (m : Vc), H2 D = some (.lst (qs.map V.ref)) ∧ Paired (fun q c => H2 q = some (.tup [.int c.1, .int c.2])) qs m ∧ (m.map (·.1)).Sublist (([1, 3, 9] : List Int).take i) ∧ (∀ c ∈ m, 0 < c.2) ∧ ∀ q ∈ qs, q ≠ st) ⟨Kp.new hD, d0.same (same_new hD), [], [], upd_same, .nil, by simp, fun c h => (by cases h), fun c h => (by cases h)⟩ (fun i H2 _ q => SqT.of (q.1 _ _ np0 ep0)) (fun i x H2 hx q => ?_) (fun H2 q => ?_)
    · obtain ⟨k2, d2, qs, m, e2, p2, sb, ps, ns2⟩ := q
      obtain ⟨dv, rfl, hdv⟩ : ∃ dv, x = .int dv ∧ ([1, 3, 9] : List Int)[i]? = some dv := by
        match i, hx with
        | 0, h => cases h; exact ⟨1, rfl, rfl⟩
        | 1, h => cases h; exact ⟨3, rfl, rfl⟩
        | 2, h => cases h; exact ⟨9, rfl, rfl⟩
      have sb2 : ∀ {l : List Int}, l.Sublist (([1, 3, 9] : List Int).take i) → (l ++ [dv]).Sublist (([1, 3, 9] : List Int).take (i + 1)) ∧ l.Sublist (([1, 3, 9] : List Int).take (i + 1)) := fun {l} h => by
        rw [List.take_add_one, hdv]
        exact ⟨h.append (List.Sublist.refl _), h.trans (List.sublist_append_left _ _)⟩
      have lq : qs.length ≤ 3 := by
        have h1 := paired_len p2
        have h2 := sb.length_le
        rw [List.length_map, List.length_take] at h2
        simp at h2
        omega
      walk_at "go"
      refine ⟨_, _, rfl, st, sc, ns, _, rfl, rfl, d2, by decide, by decide, fun y H3 y0 y1 k3 d3 => ?_⟩
      have p3 : Paired (fun q c => H3 q = some (.tup [.int c.1, .int c.2])) qs m := prd_impM p2 fun q c hq h => k3 _ _ (ns2 q hq) h
      walk_at "go"
      refine i_d (fun z => ?_) (fun nz => ?_)
      · walk_at "go"
        refine ⟨_, _, rfl, st, sc, ns, _, rfl, rfl, d3, by decide, by decide, fun w H4 w0 w1 k4 d4 => ?_⟩
        have p4 : Paired (fun q c => H4 q = some (.tup [.int c.1, .int c.2])) qs m := prd_impM p3 fun q c hq h => k4 _ _ (ns2 q hq) h
        walk_at "go"
        rename_i T hT
        have s5 := same_new (o := .tup [.int dv, .int (1 + w)]) hT
        have e5 := s5 _ _ (k4 _ _ nD (k3 _ _ nD e2))
        have k5 := (k2.trans (k3.trans k4)).trans (Kp.of s5)
        have nT : T ≠ D := fun z => by rw [z, k4 _ _ nD (k3 _ _ nD e2)] at hT; cases hT
        refine ⟨_, e5, Nat.lt_of_le_of_lt (by rw [List.length_map]; omega : _ ≤ 1000) (by decide), k5.mut hD, Dw.mut d0 (d4.same s5) hD k5, qs ++ [T], m ++ [(dv, 1 + w)], by rw [upd_same, List.map_append]; rfl, ?_, by rw [List.map_append]; exact (sb2 sb).1, fun c hc => ?_, fun q hq => ?_⟩
        · refine paired_snoc (prd_impM p4 fun q c hq h => ?_) (by rw [upd_ne nT]; exact upd_same)
          have h2 := s5 _ _ h
          rw [upd_ne fun z => by rw [z, e5] at h2; cases h2]
          exact h2
        · rcases List.mem_append.mp hc with h | h
          · exact ps c h
          · rw [List.mem_singleton.mp h]; show 0 < 1 + w; omega
        · rcases List.mem_append.mp hq with h | h
          · exact ns2 q h
          · rw [List.mem_singleton.mp h]; exact d4.free hT
      · walk_at "go"
        exact ⟨k2.trans k3, d3, qs, m, k3 _ _ nD e2, p3, (sb2 sb).2, ps, ns2⟩
    obtain ⟨k2, d2, qs, m, e2, p2, sb, ps, ns2⟩ := q
    walk_at "go"
    refine ⟨_, _, rfl, st, sc, ns, _, rfl, rfl, d2, by decide, by decide, fun y H3 y0 y1 k3 d3 => ?_⟩
    have p3 : Paired (fun q c => H3 q = some (.tup [.int c.1, .int c.2])) qs m := prd_impM p2 fun q c hq h => k3 _ _ (ns2 q hq) h
    have e3 := k3 _ _ nD e2
    walk_at "go"
    rename_i T4 hT4 L4 hL4
    have s4 := same_new (o := .tup [.int 4, .int (1 + y)]) hT4
    have s5 := same_new (o := .lst [.ref T4]) hL4
    have s45 := s4.trans s5
    have lq : qs.length ≤ 3 := by
      have h1 := paired_len p2
      have h2 := sb.length_le
      rw [List.length_map] at h2
      simp at h2
      omega
    refine e_cat (s45 _ _ e3) (ys := [.ref T4]) upd_same (by simp only [List.length_map, List.length_cons, List.length_nil]; omega) fun l6 hl6 => ?_
    have s6 := same_new (o := .lst (qs.map V.ref ++ [.ref T4])) hl6
    have s46 := s45.trans s6
    have d6 := d3.same s46
    have p6 := paired_snoc (paired_imp (fun _ _ h => s46 _ _ h) p3) (y := ((4 : Int), 1 + y)) (s6 _ _ (s5 _ _ (upd_same (H := H3) (a := T4) (o := .tup [.int 4, .int (1 + y)]))))
    have e6 := upd_same (H := upd (upd H3 T4 (.tup [.int 4, .int (1 + y)])) L4 (.lst [.ref T4])) (a := l6) (o := .lst (qs.map V.ref ++ [.ref T4]))
    have gm := good_snoc (m := m) (n := 1 + y) sb ps (by omega)
    generalize upd (upd (upd H3 T4 (.tup [.int 4, .int (1 + y)])) L4 (.lst [.ref T4])) l6 (.lst (qs.map V.ref ++ [.ref T4])) = H6 at s46 d6 p6 e6 ⊢
    have k6 := (k2.trans k3).trans (Kp.of s46)
    clear s6 s5 s45 s4 p3 p2 e3 e2 hl6 hL4
    generalize m ++ [((4 : Int), 1 + y)] = m6 at p6 gm
    walk_at "go"
    intro v7 H7 hv7 s7 pl7 _
    walk_at "go"
    have eq7 : qs.map V.ref ++ [.ref T4] = (qs ++ [T4]).map V.ref := by rw [List.map_append]; rfl
    rw [eq7] at pl7
    have p7 := paired_imp (fun _ _ h => s7 _ _ h) p6
    refine ⟨v7, _, kH H7, rfl, pl7.seq, fun x hx => ?_, fun ys l8 hsd hst hl8 => ?_⟩
    · obtain ⟨q, hq, rfl⟩ := List.mem_map.mp hx
      obtain ⟨i, hi⟩ := List.getElem?_of_mem hq
      obtain ⟨c, hc, hh⟩ := paired_get p7 i _ hi
      exact ⟨q, rfl, by rw [kH_at hh]; exact hh⟩
    obtain ⟨zs, rfl, hz⟩ := sort_vec (K := K) p7 gm hsd hst
    have s8 := same_new (o := .lst (zs.map V.ref)) hl8
    walk_at "go"
    intro v9 H9 hv9 s9 pl9 _
    have s79 := s7.trans (s8.trans s9)
    have d9 := d6.same s79
    have k9 := (Kp.of (st := st) s0).trans (k6.trans (Kp.of s79))
    have hv : PVec K (hid [st] H9) v9 (made fun k => cnt m6 (((k : Nat) : Int) + 1)) := pvec_hid ⟨zs, pl9, prs_same (s8.trans s9) hz⟩ (dw_nt d9) (fun x hx => by
      obtain ⟨l, e⟩ := dw_st d9
      rw [List.mem_singleton.mp hx]; exact ⟨l, e⟩)
    have hf : ∀ k : Nat, 0 ≤ cnt m6 (((k : Nat) : Int) + 1) := fun k => cnt_nn gm _
    obtain ⟨f, hf, hv⟩ : ∃ f : Nat → Int, (∀ k, 0 ≤ f k) ∧ PVec K (hid [st] H9) v9 (made f) := ⟨_, hf, hv⟩
    clear hz s8 hl8 hsd hst p7 p6 gm k6 d6 e6 s46 pl9 pl7 s7 s79 s9 hv7 hv9 k2 k3 d2 d3 sb ps ns2
    walk_at "go"
    refine ⟨_, _, rfl, st, sc, ns, _, rfl, rfl, d9, by decide, by decide, fun c1 G1 c10 c11 g1 dd1 => ?_⟩
    walk_at "go"
    refine ⟨_, _, rfl, st, sc, ns, _, rfl, rfl, dd1, by decide, by decide, fun c2 G2 c20 c21 g2 dd2 => ?_⟩
    walk_at "go"
    rename_i mk hmk
    have s3 := same_new (o := .tup [.int (1 + c1), .int (1 + c2)]) hmk
    have dd3 := dd2.same s3
    have emk : hid [st] (upd G2 mk (.tup [.int (1 + c1), .int (1 + c2)])) mk = some (.tup [.int (1 + c1), .int (1 + c2)]) := by rw [hid_at (by simp [dd2.free hmk])]; exact upd_same
    have kk3 := (g1.trans g2).trans (Kp.of (st := st) s3)
    generalize upd G2 mk (.tup [.int (1 + c1), .int (1 + c2)]) = G3 at s3 dd3 emk kk3 ⊢
    refine ⟨_, _, rfl, st, sc, ns, _, rfl, rfl, dd3, by decide, by decide, fun c3 G4 c30 c31 g4 dd4 => ?_⟩
    have hv4 := hv.same (kp_same (kk3.trans g4))
    have mk4 := kp_same g4 _ _ emk
    have kk4 := k9.trans (kk3.trans g4)
    walk_at "go"
    refine i_d (fun z => ?_) (fun nz => ?_)
    · walk_at "go"
      refine ⟨_, _, rfl, st, sc, ns, _, rfl, rfl, dd4, by decide, by decide, fun c5 G5 c50 c51 g5 dd5 => ?_⟩
      walk_at "go"
      refine ⟨_, _, rfl, st, sc, ns, _, rfl, rfl, dd5, by decide, by decide, fun c6 G6 c60 c61 g6 dd6 => ?_⟩
      walk_at "go"
      rename_i b7 hb7
      have s7 := same_new (o := .tup ([] : List V)) hb7
      have dd7 := dd6.same s7
      have eb7 : hid [st] (upd G6 b7 (.tup [])) b7 = some (.tup []) := by rw [hid_at (by simp [dd6.free hb7])]; exact upd_same
      refine e_mkE fun r G8 dx hr s8 hi => ?_
      walk_at "go"
      have dd8 := dd7.same s8
      have g58 := (g5.trans g6).trans ((Kp.of (st := st) s7).trans (Kp.of s8))
      have nr : r ∉ [st] := fun m => by
        obtain ⟨l0, e0⟩ := dw_st dd8
        rw [List.mem_singleton.mp m, e0] at hi
        cases hi
      exact k r ⟨ds, t0, f, 1 + c5, (1 + c1, 1 + c2), true, c6, []⟩ G8 (kk4.trans g58) dd8 ⟨hd, l1, l2, ht, lt, fun c h => (by cases h), by show 0 ≤ 20; decide, hf, ⟨by show 0 ≤ 1 + c1; omega, by show 0 ≤ 1 + c2; omega⟩, ⟨by show 1 + c1 < 100000; omega, by show 1 + c2 < 100000; omega⟩⟩ (ent_made (dx := dx) (v := v9) (m := mk) (b := b7) (Ed.en ⟨ds, t0, f, 1 + c5, (1 + c1, 1 + c2), true, c6, []⟩) (by rw [hid_at nr]; exact hi) (.of (hv4.same (kp_same g58))) (SqT.of (kp_same g58 _ _ mk4)) (SqT.of (hid_same s8 _ _ eb7)))
    · walk_at "go"
      rename_i a1 ha1 a2 ha2 a3 ha3 a4 ha4
      have t1 := same_new (o := .lst [.int 7]) ha1
      have t2 := same_new (o := .lst [.int 7, .int 8]) ha2
      have t3 := same_new (o := .lst ([] : List V)) ha3
      have t4 := same_new (o := .lst [.int 1, .int 2, .int 3, .int 4, .int 5]) ha4
      have dd5 := dd4.same (t1.trans (t2.trans (t3.trans t4)))
      have n1 := dd4.free ha1
      have n2 := (dd4.same t1).free ha2
      have n3 := (dd4.same (t1.trans t2)).free ha3
      have n4 := (dd4.same (t1.trans (t2.trans t3))).free ha4
      have e1 := (t2.trans (t3.trans t4)) _ _ (upd_same (H := G4) (a := a1) (o := .lst [.int 7]))
      have e2 := (t3.trans t4) _ _ (upd_same (a := a2) (o := .lst [.int 7, .int 8]))
      have e3 := t4 _ _ (upd_same (a := a3) (o := .lst ([] : List V)))
      have e4 := upd_same (H := upd (upd (upd G4 a1 (.lst [.int 7])) a2 (.lst [.int 7, .int 8])) a3 (.lst ([] : List V))) (a := a4) (o := .lst [.int 1, .int 2, .int 3, .int 4, .int 5])
      have kt := Kp.of (st := st) (t1.trans (t2.trans (t3.trans t4)))
      generalize upd (upd (upd (upd G4 a1 (.lst [.int 7])) a2 (.lst [.int 7, .int 8])) a3 (.lst ([] : List V))) a4 (.lst [.int 1, .int 2, .int 3, .int 4, .int 5]) = G5 at dd5 e1 e2 e3 e4 kt ⊢
      clear t1 t2 t3 t4
      refine ⟨_, rfl, st, sc, ns, rfl, dd5, fun a5 xs G6 hb5 l5 ha5 g6 dd6 e5 => ?_⟩
      have n5 := dd5.free ha5
      walk_at "go"
      rename_i L hL
      have sL := same_new (o := .lst [.ref a1, .ref a2, .ref a3, .ref a4, .ref a5]) hL
      have nL := dd6.free hL
      refine ⟨_, _, rfl, st, sc, ns, _, rfl, rfl, dd6.same sL, by decide, by decide, fun c6 G8 c60 c61 g8 dd8 => ?_⟩
      have eL := g8 _ _ nL upd_same
      have g68 := (Kp.of (st := st) sL).trans g8
      have g58 := g6.trans g68
      obtain ⟨cl, ys, hat, ecl, ncl, hys, lys⟩ : ∃ (cl : Addr) (ys : List Int), atI [V.ref a1, V.ref a2, V.ref a3, V.ref a4, V.ref a5] c6 = some (.ref cl) ∧ G8 cl = some (.lst (ys.map V.int)) ∧ cl ≠ st ∧ isB ys ∧ ys.length ≤ 13 := by
        rcases (by omega : c6 = 0 ∨ c6 = 1 ∨ c6 = 2 ∨ c6 = 3 ∨ c6 = 4) with rfl | rfl | rfl | rfl | rfl
        · exact ⟨a1, [7], rfl, g58 _ _ n1 e1, n1, by unfold isB; decide, by decide⟩
        · exact ⟨a2, [7, 8], rfl, g58 _ _ n2 e2, n2, by unfold isB; decide, by decide⟩
        · exact ⟨a3, [], rfl, g58 _ _ n3 e3, n3, by unfold isB; decide, by decide⟩
        · exact ⟨a4, [1, 2, 3, 4, 5], rfl, g58 _ _ n4 e4, n4, by unfold isB; decide, by decide⟩
        · exact ⟨a5, xs, rfl, g68 _ _ n5 e5, n5, hb5, l5⟩
      refine e_ixL (SqL.of eL) hat ?_
      walk_at "go"
      refine ⟨_, _, rfl, st, sc, ns, _, rfl, rfl, dd8, by decide, by decide, fun c7 G9 c70 c71 g9 dd9 => ?_⟩
      walk_at "go"
      refine ⟨_, _, rfl, st, sc, ns, _, rfl, rfl, dd9, by decide, by decide, fun c8 G10 c80 c81 g10 dd10 => ?_⟩
      walk_at "go"
      have ecl2 := g10 _ _ ncl (g9 _ _ ncl ecl)
      refine ⟨_, rfl, cl, ys, rfl, SqL.of ecl2, by omega, fun bq G11 hbq s11 e11 => ?_⟩
      have dd11 := dd10.same s11
      have ebq : hid [st] G11 bq = some (.tup ((nums ys).map V.int)) := by rw [hid_at (by simp [dd10.free hbq])]; exact e11
      walk_at "go"
      refine e_mkE fun r G12 dx hr s12 hi => ?_
      walk_at "go"
      have dd12 := dd11.same s12
      have gg := kt.trans (g58.trans ((g9.trans g10).trans ((Kp.of (st := st) s11).trans (Kp.of s12))))
      have nr : r ∉ [st] := fun m => by
        obtain ⟨l0, e0⟩ := dw_st dd12
        rw [List.mem_singleton.mp m, e0] at hi
        cases hi
      have lcs : (chunks ys).length ≤ 20 := by rw [chunks_len]; omega
      exact k r ⟨ds, t0, f, 1 + c7, (1 + c1, 1 + c2), false, c8, chunks ys⟩ G12 (kk4.trans gg) dd12 ⟨hd, l1, l2, ht, lt, chunks_piece ys hys, lcs, hf, ⟨by show 0 ≤ 1 + c1; omega, by show 0 ≤ 1 + c2; omega⟩, ⟨by show 1 + c1 < 100000; omega, by show 1 + c2 < 100000; omega⟩⟩ (ent_made (dx := dx) (v := v9) (m := mk) (b := bq) (Ed.en ⟨ds, t0, f, 1 + c7, (1 + c1, 1 + c2), false, c8, chunks ys⟩) (by rw [hid_at nr]; exact hi) (.of (hv4.same (kp_same gg))) (SqT.of (kp_same gg _ _ mk4)) (SqT.of (hid_same s12 _ _ ebq)))
theorem ok_law_sealed (T : Txt K mg) (c_Entry : C8.Mak P w K mg base 1 "Entry" (He.ga K "Entry") (sp_Entry___init__ K) [])  (c_split : Cal P w K mg base 2 "split" (sp_split K)) (c_seal_content : Cal P w K mg base 4 "seal_content" (sp_seal_content K)) (c_seal_name : Cal P w K mg base 3 "seal_name" (sp_seal_name K)) {f : Addr} {fd : FuncData} (F : FnP K "_law_sealed" s_law_sealed f fd) : FnOk P w K mg base CX0 5 f fd ["entry", "key"] (sp_law_sealed K) := by
  refine F.ok sc_law_sealed (fun vs H Q E h => ?_) (fun cdv A outer s H vs Q E hr h => ?_)
  · obtain ⟨_, _, rfl, _⟩ := h
    rfl
  · have S := sc_law_sealed
    refine ⟨_, PSs.nox (pss_cons (ps_set (i := 2) S.nd rfl (by first | exact .inl rfl | exact .inr rfl | exact .inr (.inl rfl) | exact .inr (.inr rfl)) (pe_tup pa_nil))
    (pss_cons (ps_for PassesOwn.never rfl (pi_tup (pe_fld (pv 0) rfl)) (pg_name (i := 3) S.nd rfl (by first | exact .inl rfl | exact .inr rfl | exact .inr (.inl rfl) | exact .inr (.inr rfl)))
    (pss_cons (ps_set (i := 4) S.nd rfl (by first | exact .inl rfl | exact .inr rfl | exact .inr (.inl rfl) | exact .inr (.inr rfl)) (pe_callB call_len_seq (by rfl) T.f_len (by first | rfl | decide +kernel) (pa_cons (pe_lc (own := [("k", 6)]) (g := gName 6) rfl S.nd (pi_range2 (by rfl) T.f_range (pa_cons pe_int (pa_cons pe_int pa_nil))) (blkOk_by (N := N_law_sealed) (sc := defScope s_law_sealed) (by decide +kernel)) (fun _ _ _ _ _ => (pg_name (i := 6) S.nd rfl (by first | exact .inl rfl | exact .inr rfl | exact .inr (.inl rfl) | exact .inr (.inr rfl)))) (fun _ _ _ _ _ => (pts_one (pt_cmpR op_gt (pe_op op_shr (pv 3) (pe_op op_mul pe_int (pv 6))) pe_int (nomark _)))) (fun _ _ _ _ _ => (pv 6))) pa_nil)))
      (pss_one (ps_set (i := 2) S.nd rfl (by first | exact .inl rfl | exact .inr rfl | exact .inr (.inl rfl) | exact .inr (.inr rfl)) (pe_op op_catA (pv 2) (pe_c c_split hr (by decide) (by rfl) (pa_cons (pe_c c_seal_content hr (by decide) (by rfl) (pa_cons (pe_lc (own := [("k", 6)]) (g := gName 6) (tt := tYes) rfl S.nd (pi_range1 (by rfl) T.f_range (pa_cons (pv 4) pa_nil)) (blkOk_by (N := N_law_sealed) (sc := defScope s_law_sealed) (by decide +kernel)) (fun _ _ _ _ _ => (pg_name (i := 6) S.nd rfl (by first | exact .inl rfl | exact .inr rfl | exact .inr (.inl rfl) | exact .inr (.inr rfl)))) (fun _ _ _ _ _ => pts_nil) (fun _ _ _ _ _ => (pe_op op_andM (pe_op op_shr (pv 3) (pe_op op_mul pe_int (pe_op op_sub (pe_op op_sub (pv 4) pe_int) (pv 6)))) pe_int))) (pa_cons (pv 1) pa_nil))) pa_nil)))))))
    (pss_cons (ps_set (i := 5) S.nd rfl (by first | exact .inl rfl | exact .inr rfl | exact .inr (.inl rfl) | exact .inr (.inr rfl)) (pe_c c_seal_name hr (by decide) (by rfl) (pa_cons (pe_fld (pv 0) rfl) (pa_cons (pv 1) pa_nil))))
    (pss_one (ps_ret (C8.pe_mk c_Entry hr (by decide) (by rfl) (pa_cons (pv 5) (pa_cons (pe_fld (pv 0) rfl) (pa_cons (pe_fld (pv 0) rfl) (pa_cons (pe_fld (pv 0) rfl) (pa_cons (pe_fld (pv 0) rfl) (pa_cons (pe_fld (pv 0) rfl) (pa_cons (pv 2) pa_nil))))))))))))), ?_⟩
    try dsimp only [cxOf, Cx.nox]
    have t : ET K := ⟨T.cl_Entry, T.no_Entry_name, T.no_Entry_vector, T.no_Entry_height, T.no_Entry_maker, T.no_Entry_deleted, T.no_Entry_time, T.no_Entry_blocks⟩
    obtain ⟨_, _, rfl, e, q, x, ks, p, rfl, rfl, hE, ok, hk, k⟩ := h
    walk_at "go"
    rename_i b0 hb0
    have s0 := same_new (o := .tup ([] : List V)) hb0
    have hE0 := hE.same s0
    have hk0 := hk.same s0
    have eb0 : SqT K (upd H b0 (.tup [])) b0 [] := SqT.of upd_same
    generalize upd H b0 (.tup []) = H0 at s0 hE0 hk0 eb0
    clear hE
    walk_at "go"
    rename_i bv hbv
    have hlc := ok.lc
    refine for_intsT (ns := x.cs.map bnum) (fun pre σ H1 => (∃ b1 v3 v4 v6, σ = [some (.ref e), some (.ref q), some (.ref b1), v3, v4, none, v6] ∧ SqT K H1 b1 ((((x.cs.take pre.length).map (mix 256 ks)).map bnum).map V.int)) ∧ Same H0 H1) ⟨⟨b0, _, _, _, rfl, eb0⟩, Same.refl _⟩ (fun pre σ H1 z => same_tup z.2 hbv) (fun pre y post σ H1 e0 z => ?_) (fun σ H1 z => ?_)
    · obtain ⟨⟨b1, v3, v4, v6, rfl, hb1⟩, s1⟩ := z
      obtain ⟨c, hc, rfl⟩ : ∃ c, x.cs[pre.length]? = some c ∧ bnum c = y := by
        have : (x.cs.map bnum)[pre.length]? = some y := by rw [e0]; simp
        rw [List.getElem?_map] at this
        exact Option.map_eq_some_iff.mp this
      have hP := ok.p c (List.mem_of_getElem? hc)
      have h1 := hP.h1
      have h4 := hP.h4
      have lp : pre.length ≤ 20 := by
        have := (List.getElem?_eq_some_iff.mp hc).1
        omega
      walk_at "go"
      intro D hD
      refine lc_filt (K := K) hD (by decide) (fun i => decide (i < c.length)) (fun i => .int (1 + (i : Nat))) (fun i H2 C E hi s2 hC hE => ?_) (fun H2 s2 e2 => ?_)
      · have hi4 : i < 4 := hi
        have hs := shp hP hi4
        walk_at "go"
        refine i_d (fun lt => ?_) (fun ge => ?_)
        · walk_at "go"
          exact hC (decide_eq_true (hs.mp lt)) _ (Same.refl _)
        · exact hE (decide_eq_false fun z => ge (hs.mpr z)) _ (Same.refl _)
      walk_at "go"
      have em : (List.map (fun i : Nat => V.int (1 + (i : Int))) (List.filter (fun i => decide (i < c.length)) (List.range (5 - 1 : Int).toNat))).length = c.length := by rw [List.length_map]; exact filt_m h1 h4
      rw [em]
      refine ⟨by omega, by omega, fun D2 hD2 => ?_⟩
      refine lc_map_rng hD2 (by omega) (fun i => .int (c.getD i 0)) (fun i H3 C E hi s3 hC => ?_) (fun H3 s3 e3 => ?_)
      · have hi2 : i < c.length := by omega
        have hb := bya hP hi2
        walk_at "go"
        refine ⟨_, 8, rfl, rfl, ?_⟩
        rw [hb]
        exact hC _ (Same.refl _)
      rw [Int.toNat_natCast, get_map] at e3
      have s03 := (s1.trans s2).trans s3
      have hk3 := hk0.same s03
      walk_at "go"
      refine ⟨_, _, rfl, D2, q, c, ks, rfl, rfl, SqL.of e3, hP.b, by omega, hk3.1, hk3.2, fun l H4 hl s4 e4 => ?_⟩
      rw [mixC_one hP] at e4
      have mP := mix_piece (ks := ks) hP
      walk_at "go"
      refine ⟨_, rfl, l, mix 256 ks c, rfl, SqL.of e4, by have := mP.h4; omega, fun r H5 hr s5 e5 => ?_⟩
      rw [nums_one mP] at e5
      walk_at "go"
      refine e_catT (same_tup ((s2.trans s3).trans (s4.trans s5)) hb1) (SqT.of e5) (by simp only [List.length_map, List.length_take, List.length_cons, List.length_nil]; omega) fun r2 H6 s6 h6 => ?_
      walk_at "go"
      refine ⟨⟨r2, _, _, _, rfl, ?_⟩, s03.trans ((s4.trans s5).trans s6)⟩
      rw [List.length_append, List.length_singleton, List.take_add_one, hc, List.map_append, List.map_append, List.map_append]
      exact h6
    · obtain ⟨⟨b1, v3, v4, v6, rfl, hb1⟩, s1⟩ := z
      rw [List.length_map, List.take_length] at hb1
      have hE1 := hE0.same s1
      have hk1 := hk0.same s1
      clear hE0
      walk_at "go"
      refine ⟨_, _, rfl, x.ds, ks, x.t, q, rfl, rfl, hk1.1, hk1.2, ok.d, ok.t, by have := ok.l2; have := ok.lt; omega, fun H2 s2 => ?_⟩
      have hE2 := hE1.same s2
      clear hE1
      walk_at "go"
      rename_i vv hvv mm hmm
      refine e_mkE fun r H3 dx hr s3 hi => ?_
      walk_at "go"
      exact k r H3 (((s0.trans s1).trans s2).trans s3) (ent_made (dx := dx) (v := vv) (m := mm) (b := b1) (x.sl ks).en hi (hvv.same s3) (same_tup s3 hmm) (same_tup s3 (same_tup s2 hb1)))
theorem ok_law_block (T : Txt K mg)  (c_split : Cal P w K mg base 2 "split" (sp_split K)) (c_law_draw : Cal P w K mg base 1 "_law_draw" (sp_law_draw K)) {f : Addr} {fd : FuncData} (F : FnP K "_law_block" s_law_block f fd) : FnOk P w K mg base CX0 3 f fd ["draws"] (sp_law_block K) := by
  refine F.ok sc_law_block (fun vs H Q E h => ?_) (fun cdv A outer s H vs Q E hr h => ?_)
  · obtain ⟨_, rfl, _⟩ := h
    rfl
  · have S := sc_law_block
    refine ⟨_, PSs.nox (pss_one (ps_ret (pe_ix ix_tup (pe_c c_split hr (by decide) (by rfl) (pa_cons (pe_lc (own := [("k", 1)]) (g := gName 1) (tt := tYes) rfl S.nd (pi_range1 (by rfl) T.f_range (pa_cons (pe_op op_add pe_int (pe_c c_law_draw hr (by decide) (by rfl) (pa_cons (pv 0) (pa_cons pe_int pa_nil)))) pa_nil)) (blkOk_by (N := N_law_block) (sc := defScope s_law_block) (by decide +kernel)) (fun _ _ _ _ _ => (pg_name (i := 1) S.nd rfl (by first | exact .inl rfl | exact .inr rfl | exact .inr (.inl rfl) | exact .inr (.inr rfl)))) (fun _ _ _ _ _ => pts_nil) (fun _ _ _ _ _ => (pe_c c_law_draw hr (by decide) (by rfl) (pa_cons (pv 0) (pa_cons pe_int pa_nil))))) pa_nil)) pe_int (fun _ _ => rfl)))), ?_⟩
    try dsimp only [cxOf, Cx.nox]
    obtain ⟨_, rfl, st, sc, ns, rfl, d, k⟩ := h
    walk_at "go"
    refine ⟨_, _, rfl, st, sc, ns, _, rfl, rfl, d, by decide, by decide, fun y H1 y0 y1 k1 d1 => ?_⟩
    walk_at "go"
    intro D hD
    refine lc_dw d1 hD (by omega) (fun v => ∃ i, v = .int i ∧ (0 ≤ i ∧ i < 256)) (fun i H2 C E hi k2 d2 hC => ?_) (fun H2 xs k2 d2 e2 l2 h2 => ?_)
    · walk_at "go"
      refine ⟨_, _, rfl, st, sc, ns, _, rfl, rfl, d2, by decide, by decide, fun x H3 x0 x1 k3 d3 => ?_⟩
      exact hC _ _ k3 d3 ⟨_, rfl, x0, x1⟩
    · obtain ⟨bs, rfl, hbs⟩ := ints_of (n := 0) h2
      rw [List.length_map] at l2
      have hP : Piece bs := ⟨hbs, by omega, by omega⟩
      walk_at "go"
      refine ⟨_, rfl, D, bs, rfl, SqL.of e2, by omega, fun r H5 hr s5 e5 => ?_⟩
      rw [nums_one hP] at e5
      walk_at "go"
      refine e_ixT (SqT.of e5) rfl ?_
      exact k bs H5 ((k1.trans k2).trans (Kp.of s5)) (d2.same s5) hP
theorem ok_law_sealed_block (T : Txt K mg) (c_Entry : C8.Mak P w K mg base 1 "Entry" (He.ga K "Entry") (sp_Entry___init__ K) [])  (c_law_sealed : Cal P w K mg base 5 "_law_sealed" (sp_law_sealed K)) {f : Addr} {fd : FuncData} (F : FnP K "_law_sealed_block" s_law_sealed_block f fd) : FnOk P w K mg base CX0 6 f fd ["block", "key"] (sp_law_sealed_block K) := by
  refine F.ok sc_law_sealed_block (fun vs H Q E h => ?_) (fun cdv A outer s H vs Q E hr h => ?_)
  · obtain ⟨_, _, rfl, _⟩ := h
    rfl
  · have S := sc_law_sealed_block
    refine ⟨_, PSs.nox (pss_one (ps_ret (pe_ix ix_tup (pe_fld (pe_c c_law_sealed hr (by decide) (by rfl) (pa_cons (C8.pe_mk c_Entry hr (by decide) (by rfl) (pa_cons pe_str (pa_cons (pe_tup (pa_cons (pe_tup (pa_cons pe_int (pa_cons pe_int pa_nil))) pa_nil)) (pa_cons pe_int (pa_cons (pe_tup (pa_cons pe_int (pa_cons pe_int pa_nil))) (pa_cons pe_bl (pa_cons pe_int (pa_cons (pe_tup (pa_cons (pv 0) pa_nil)) pa_nil)))))))) (pa_cons (pv 1) pa_nil))) rfl) pe_int (fun _ _ => rfl)))), ?_⟩
    try dsimp only [cxOf, Cx.nox]
    have t : ET K := ⟨T.cl_Entry, T.no_Entry_name, T.no_Entry_vector, T.no_Entry_height, T.no_Entry_maker, T.no_Entry_deleted, T.no_Entry_time, T.no_Entry_blocks⟩
    obtain ⟨_, _, rfl, c, q, ks, rfl, rfl, hP, hk, k⟩ := h
    walk_at "go"
    rename_i q1 h1 q2 h2 q3 h3 q4 h4
    have s1 := same_new (o := .tup [.int 1, .int 1]) h1
    have s2 := same_new (o := .tup [.ref q1]) h2
    have s3 := same_new (o := .tup [.int 1, .int 1]) h3
    have s4 := same_new (o := .tup [.int (bnum c)]) h4
    have s14 := ((s1.trans s2).trans s3).trans s4
    have f1 := (s2.trans (s3.trans s4)) _ _ (upd_same (H := H) (a := q1) (o := .tup [.int 1, .int 1]))
    have f2 := (s3.trans s4) _ _ (upd_same (a := q2) (o := .tup [.ref q1]))
    have f3 := s4 _ _ (upd_same (a := q3) (o := .tup [.int 1, .int 1]))
    refine e_mkE fun ea Hb dx hea s5 hi5 => ?_
    have e : nmS [40] ++ Str.empty = "a" := by decide +kernel
    have hE : Ent K Hb false ea (Ed.en ⟨[40], Str.empty, fun k => if k = 0 then 1 else 0, 1, (1, 1), false, 0, [c]⟩) := ent_made (p := false) (dx := dx) (v := q2) (m := q3) (b := q4) _ (by
      show Hb ea = some (.ins (cEnt K) dx (fs7 (.str (nmS [40] ++ Str.empty)) (.ref q2) (.int 1) (.ref q3) (.bl false) (.int 0) (.ref q4)))
      rw [e]
      exact hi5) ⟨by
      show Vec K Hb q2 (made (fun k => if k = 0 then 1 else 0))
      rw [made_one (by decide) (by decide)]
      exact ⟨[q1], SqT.of (s5 _ _ f2), .cons (SqT.of (s5 _ _ f1)) .nil⟩, fun z => nomatch z⟩ (SqT.of (s5 _ _ f3)) (SqT.of (s5 _ _ upd_same))
    have ok : Ed.Ok ⟨[40], Str.empty, fun k => if k = 0 then 1 else 0, 1, (1, 1), false, 0, [c]⟩ := ⟨fun d hd => by rw [List.mem_singleton.mp hd]; omega, by show 1 ≤ 1; decide, by show 1 ≤ 27; decide, .inl rfl, by show Str.empty.length ≤ 100; decide, fun d hd => by rw [List.mem_singleton.mp hd]; exact hP, by show 1 ≤ 20; decide, fun k => by show 0 ≤ (if k = 0 then (1 : Int) else 0); split <;> omega, ⟨Int.one_nonneg, Int.one_nonneg⟩, ⟨by show (1 : Int) < 100000; decide, by show (1 : Int) < 100000; decide⟩⟩
    have s6 := s14.trans s5
    walk_at "go"
    refine ⟨_, _, rfl, ea, q, _, ks, false, rfl, rfl, hE, ok, hk.same s6, fun r H7 s7 hE7 => ?_⟩
    clear hE
    walk_at "go"
    rename_i bv hbv
    refine e_ixT hbv rfl ?_
    exact k H7 (s6.trans s7)
theorem ok_law_data (T : Txt K mg)   {f : Addr} {fd : FuncData} (F : FnP K "_law_data" s_law_data f fd) : FnOk P w K mg base CX0 1 f fd ["block"] (sp_law_data K) := by
  refine F.ok sc_law_data (fun vs H Q E h => ?_) (fun cdv A outer s H vs Q E hr h => ?_)
  · obtain ⟨_, rfl, _⟩ := h
    rfl
  · have S := sc_law_data
    refine ⟨_, PSs.nox (pss_cons (ps_set (i := 1) S.nd rfl (by first | exact .inl rfl | exact .inr rfl | exact .inr (.inl rfl) | exact .inr (.inr rfl)) (pe_callB call_len_seq (by rfl) T.f_len (by first | rfl | decide +kernel) (pa_cons (pe_lc (own := [("k", 2)]) (g := gName 2) rfl S.nd (pi_range2 (by rfl) T.f_range (pa_cons pe_int (pa_cons pe_int pa_nil))) (blkOk_by (N := N_law_data) (sc := defScope s_law_data) (by decide +kernel)) (fun _ _ _ _ _ => (pg_name (i := 2) S.nd rfl (by first | exact .inl rfl | exact .inr rfl | exact .inr (.inl rfl) | exact .inr (.inr rfl)))) (fun _ _ _ _ _ => (pts_one (pt_cmpR op_gt (pe_op op_shr (pv 0) (pe_op op_mul pe_int (pv 2))) pe_int (nomark _)))) (fun _ _ _ _ _ => (pv 2))) pa_nil)))
    (pss_one (ps_ret (pe_callTy call_tuple_of (by rfl) T.f_tuple (by first | rfl | decide +kernel) (pa_cons (pe_lc (own := [("k", 2)]) (g := gName 2) (tt := tYes) rfl S.nd (pi_range1 (by rfl) T.f_range (pa_cons (pv 1) pa_nil)) (blkOk_by (N := N_law_data) (sc := defScope s_law_data) (by decide +kernel)) (fun _ _ _ _ _ => (pg_name (i := 2) S.nd rfl (by first | exact .inl rfl | exact .inr rfl | exact .inr (.inl rfl) | exact .inr (.inr rfl)))) (fun _ _ _ _ _ => pts_nil) (fun _ _ _ _ _ => (pe_op op_andM (pe_op op_shr (pv 0) (pe_op op_mul pe_int (pe_op op_sub (pe_op op_sub (pv 1) pe_int) (pv 2)))) pe_int))) pa_nil))))), ?_⟩
    try dsimp only [cxOf, Cx.nox]
    obtain ⟨_, rfl, c, rfl, hP, k⟩ := h
    have h1 := hP.h1
    have h4 := hP.h4
    walk_at "go"
    intro D hD
    refine lc_filt (K := K) hD (by decide) (fun i => decide (i < c.length)) (fun i => .int (1 + (i : Nat))) (fun i H2 C E hi s2 hC hE => ?_) (fun H2 s2 e2 => ?_)
    · have hi4 : i < 4 := hi
      have hs := shp hP hi4
      walk_at "go"
      refine i_d (fun lt => ?_) (fun ge => ?_)
      · walk_at "go"
        exact hC (decide_eq_true (hs.mp lt)) _ (Same.refl _)
      · exact hE (decide_eq_false fun z => ge (hs.mpr z)) _ (Same.refl _)
    · walk_at "go"
      have em : (List.map (fun i : Nat => V.int (1 + (i : Int))) (List.filter (fun i => decide (i < c.length)) (List.range (5 - 1 : Int).toNat))).length = c.length := by rw [List.length_map]; exact filt_m h1 h4
      rw [em]
      refine ⟨by omega, by omega, fun D2 hD2 => ?_⟩
      refine lc_map_rng hD2 (by omega) (fun i => .int (c.getD i 0)) (fun i H3 C E hi s3 hC => ?_) (fun H3 s3 e3 => ?_)
      · have hi2 : i < c.length := by omega
        have hb := bya hP hi2
        walk_at "go"
        refine ⟨_, 8, rfl, rfl, ?_⟩
        rw [hb]
        exact hC _ (Same.refl _)
      · rw [Int.toNat_natCast, get_map] at e3
        walk_at "go"
        exact ⟨_, _, rfl, .inl ⟨SqL.of e3, fun l hl => k l _ ((s2.trans s3).trans (same_new hl)) (SqT.of upd_same)⟩⟩
theorem ok_law_letters (T : Txt K mg)  (c_law_block : Cal P w K mg base 3 "_law_block" (sp_law_block K)) (c_law_sealed_block : Cal P w K mg base 6 "_law_sealed_block" (sp_law_sealed_block K)) (c_law_any_name : Cal P w K mg base 3 "_law_any_name" (sp_law_any_name K)) (c_law_draw : Cal P w K mg base 1 "_law_draw" (sp_law_draw K)) (c_law_sealed : Cal P w K mg base 5 "_law_sealed" (sp_law_sealed K)) (c_seal_name : Cal P w K mg base 3 "seal_name" (sp_seal_name K)) (c_law_data : Cal P w K mg base 1 "_law_data" (sp_law_data K)) {f : Addr} {fd : FuncData} (F : FnP K "_law_letters" s_law_letters f fd) : FnOk P w K mg base CX0 7 f fd ["draws", "entries", "key"] (sp_law_letters K) := by
  refine F.ok sc_law_letters (fun vs H Q E h => ?_) (fun cdv A outer s H vs Q E hr h => ?_)
  · obtain ⟨_, _, _, rfl, _⟩ := h
    rfl
  · have S := sc_law_letters
    refine ⟨_, PSs.nox (pss_cons (ps_set (i := 3) S.nd rfl (by first | exact .inl rfl | exact .inr rfl | exact .inr (.inl rfl) | exact .inr (.inr rfl)) (pe_c c_law_block hr (by decide) (by rfl) (pa_cons (pv 0) pa_nil)))
    (pss_cons (ps_set (i := 4) S.nd rfl (by first | exact .inl rfl | exact .inr rfl | exact .inr (.inl rfl) | exact .inr (.inr rfl)) (pe_c c_law_sealed_block hr (by decide) (by rfl) (pa_cons (pv 3) (pa_cons (pv 2) pa_nil))))
    (pss_cons (ps_set (i := 5) S.nd rfl (by first | exact .inl rfl | exact .inr rfl | exact .inr (.inl rfl) | exact .inr (.inr rfl)) (pe_c c_law_any_name hr (by decide) (by rfl) (pa_cons (pv 0) pa_nil)))
    (pss_cons (ps_set (i := 6) S.nd rfl (by first | exact .inl rfl | exact .inr rfl | exact .inr (.inl rfl) | exact .inr (.inr rfl)) (pe_c c_law_draw hr (by decide) (by rfl) (pa_cons (pv 0) (pa_cons pe_int pa_nil))))
    (pss_cons (ps_set (i := 7) S.nd rfl (by first | exact .inl rfl | exact .inr rfl | exact .inr (.inl rfl) | exact .inr (.inr rfl)) (pe_lst (pa_cons (pe_tup (pa_cons (pe_tup (pa_cons pe_str (pa_cons (pe_op op_add pe_int (pe_op op_fdivW (pv 6) pe_int)) pa_nil))) (pa_cons (pe_tup (pa_cons pe_str (pa_cons (pe_op op_add pe_int (pe_op op_fdivW (pv 6) pe_int)) pa_nil))) pa_nil))) (pa_cons (pe_tup (pa_cons (pe_tup (pa_cons pe_str (pa_cons (pv 6) pa_nil))) (pa_cons (pe_tup (pa_cons pe_str (pa_cons (pv 6) pa_nil))) pa_nil))) pa_nil))))
    (pss_cons (ps_set (i := 8) S.nd rfl (by first | exact .inl rfl | exact .inr rfl | exact .inr (.inl rfl) | exact .inr (.inr rfl)) (pe_callTy call_tuple_of (by rfl) T.f_tuple (by first | rfl | decide +kernel) (pa_cons (pe_lc (own := [("entry", 10)]) (g := gName 10) (tt := tYes) rfl S.nd (pi_list (pv 1)) (blkOk_by (N := N_law_letters) (sc := defScope s_law_letters) (by decide +kernel)) (fun _ _ _ _ _ => (pg_name (i := 10) S.nd rfl (by first | exact .inl rfl | exact .inr rfl | exact .inr (.inl rfl) | exact .inr (.inr rfl)))) (fun _ _ _ _ _ => pts_nil) (fun _ _ _ _ _ => (pe_tup (pa_cons (pv 10) (pa_cons (pe_op op_add (pv 6) pe_int) pa_nil))))) pa_nil)))
    (pss_cons (ps_set (i := 9) S.nd rfl (by first | exact .inl rfl | exact .inr rfl | exact .inr (.inl rfl) | exact .inr (.inr rfl)) (pe_callTy call_tuple_of (by rfl) T.f_tuple (by first | rfl | decide +kernel) (pa_cons (pe_lc (own := [("entry", 10)]) (g := gName 10) (tt := tYes) rfl S.nd (pi_list (pv 1)) (blkOk_by (N := N_law_letters) (sc := defScope s_law_letters) (by decide +kernel)) (fun _ _ _ _ _ => (pg_name (i := 10) S.nd rfl (by first | exact .inl rfl | exact .inr rfl | exact .inr (.inl rfl) | exact .inr (.inr rfl)))) (fun _ _ _ _ _ => pts_nil) (fun _ _ _ _ _ => (pe_tup (pa_cons (pe_c c_law_sealed hr (by decide) (by rfl) (pa_cons (pv 10) (pa_cons (pv 2) pa_nil))) (pa_cons (pe_op op_add (pv 6) pe_int) pa_nil))))) pa_nil)))
    (pss_cons (ps_expr (pe_bm PySem.F.plainAttrs_list PySem.F.slot_list_append PySem.F.type_list_append mt_append (pv 7) (pa_cons (pe_tup (pa_cons (pe_tup (pa_cons pe_str (pa_cons (pv 6) (pa_cons (pe_op op_add (pv 6) pe_int) (pa_cons (pv 8) pa_nil))))) (pa_cons (pe_tup (pa_cons pe_str (pa_cons (pv 6) (pa_cons (pe_op op_add (pv 6) pe_int) (pa_cons (pv 9) pa_nil))))) pa_nil))) pa_nil)))
    (pss_cons (ps_expr (pe_bm PySem.F.plainAttrs_list PySem.F.slot_list_append PySem.F.type_list_append mt_append (pv 7) (pa_cons (pe_tup (pa_cons (pe_tup (pa_cons pe_str (pa_cons (pv 5) (pa_cons pe_int (pa_cons (pv 3) pa_nil))))) (pa_cons (pe_tup (pa_cons pe_str (pa_cons (pe_c c_seal_name hr (by decide) (by rfl) (pa_cons (pv 5) (pa_cons (pv 2) pa_nil))) (pa_cons pe_int (pa_cons (pv 4) pa_nil))))) pa_nil))) pa_nil)))
    (pss_cons (ps_expr (pe_bm PySem.F.plainAttrs_list PySem.F.slot_list_append PySem.F.type_list_append mt_append (pv 7) (pa_cons (pe_tup (pa_cons (pe_tup (pa_cons pe_str (pa_cons (pv 3) (pa_cons (pe_c c_law_data hr (by decide) (by rfl) (pa_cons (pv 3) pa_nil)) pa_nil)))) (pa_cons (pe_tup (pa_cons pe_str (pa_cons (pv 4) (pa_cons (pe_c c_law_data hr (by decide) (by rfl) (pa_cons (pv 4) pa_nil)) pa_nil)))) pa_nil))) pa_nil)))
    (pss_one (ps_ret (pe_op op_cat (pv 7) (pe_lst (pa_cons (pe_tup (pa_cons (pe_tup (pa_cons pe_str (pa_cons (pv 3) pa_nil))) (pa_cons (pe_tup (pa_cons pe_str (pa_cons (pv 4) pa_nil))) pa_nil))) pa_nil))))))))))))))), ?_⟩
    try dsimp only [cxOf, Cx.nox]
    have t : ET K := ⟨T.cl_Entry, T.no_Entry_name, T.no_Entry_vector, T.no_Entry_height, T.no_Entry_maker, T.no_Entry_deleted, T.no_Entry_time, T.no_Entry_blocks⟩
    obtain ⟨_, _, _, rfl, st, sc, el, q, ns, ks, ps, xs, rfl, rfl, rfl, d, hS, hE, hok, lx, hk, k⟩ := h
    walk_at "go"
    refine ⟨_, rfl, st, sc, ns, rfl, d, fun c H1 k1 d1 hP => ?_⟩
    have hk1 : KeyA K H1 q ks := (hk.same (kp_same k1)).same hid_sub
    walk_at "go"
    refine ⟨_, _, rfl, c, q, ks, rfl, rfl, hP, hk1, fun H2 s2 => ?_⟩
    walk_at "go"
    refine ⟨_, rfl, st, sc, ns, rfl, d1.same s2, fun ds t0 H3 hd l1 l2 ht lt k3 d3 => ?_⟩
    walk_at "go"
    refine ⟨_, _, rfl, st, sc, ns, _, rfl, rfl, d3, by decide, by decide, fun n H4 n0 n1 k4 d4 => ?_⟩
    have k14 : Kp st H H4 := k1.trans ((Kp.of s2).trans (k3.trans k4))
    have hk4 : KeyA K H4 q ks := (hk.same (kp_same k14)).same hid_sub
    have hS4 : SqL K H4 el (ps.map V.ref) := hid_sub.seq ((kp_same k14).seq hS)
    have hE4 : Ents K H4 true ps (xs.map Ed.en) := ents_same hid_sub (ents_same (kp_same k14) hE)
    clear hS hE hk hk1 d1 d3 k1 k3 k4 s2 d
    walk_at "go"
    rename_i h1 e1 h2 e2 h3 e3 h4 e4 h5 e5 h6 e6 r0 e7
    have s1 := same_new (o := .tup [.str "hello", .int (1 + n / 8000)]) e1
    have s2 := same_new (o := .tup [.str "hello", .int (1 + n / 8000)]) e2
    have s3 := same_new (o := .tup [.ref h1, .ref h2]) e3
    have s4 := same_new (o := .tup [.str "ask", .int n]) e4
    have s5 := same_new (o := .tup [.str "ask", .int n]) e5
    have s6 := same_new (o := .tup [.ref h4, .ref h5]) e6
    have s7 := same_new (o := .lst [.ref h3, .ref h6]) e7
    have s47 := s1.trans (s2.trans (s3.trans (s4.trans (s5.trans (s6.trans s7)))))
    have La : PrL K (upd (upd (upd H4 h1 (.tup [.str "hello", .int (1 + n / 8000)])) h2 (.tup [.str "hello", .int (1 + n / 8000)])) h3 (.tup [.ref h1, .ref h2])) ks h3 (.hello (1 + n / 8000)) := ⟨h1, h2, SqT.of upd_same, SqT.of ((s2.trans s3) _ _ upd_same), SqT.of (s3 _ _ upd_same), trivial⟩
    have Lb : PrL K (upd (upd (upd (upd (upd (upd H4 h1 (.tup [.str "hello", .int (1 + n / 8000)])) h2 (.tup [.str "hello", .int (1 + n / 8000)])) h3 (.tup [.ref h1, .ref h2])) h4 (.tup [.str "ask", .int n])) h5 (.tup [.str "ask", .int n])) h6 (.tup [.ref h4, .ref h5])) ks h6 (.ask n) := ⟨h4, h5, SqT.of upd_same, SqT.of ((s5.trans s6) _ _ upd_same), SqT.of (s6 _ _ upd_same), trivial⟩
    have La := La.same (s4.trans (s5.trans (s6.trans s7)))
    have Lb := Lb.same s7
    have er0 := upd_same (H := upd (upd (upd (upd (upd (upd H4 h1 (.tup [.str "hello", .int (1 + n / 8000)])) h2 (.tup [.str "hello", .int (1 + n / 8000)])) h3 (.tup [.ref h1, .ref h2])) h4 (.tup [.str "ask", .int n])) h5 (.tup [.str "ask", .int n])) h6 (.tup [.ref h4, .ref h5])) (a := r0) (o := .lst [.ref h3, .ref h6])
    have er0n : H4 r0 = none := (s1.trans (s2.trans (s3.trans (s4.trans (s5.trans s6))))).free e7
    generalize upd (upd (upd (upd (upd (upd (upd H4 h1 (.tup [.str "hello", .int (1 + n / 8000)])) h2 (.tup [.str "hello", .int (1 + n / 8000)])) h3 (.tup [.ref h1, .ref h2])) h4 (.tup [.str "ask", .int n])) h5 (.tup [.str "ask", .int n])) h6 (.tup [.ref h4, .ref h5])) r0 (.lst [.ref h3, .ref h6]) = H5 at s47 La Lb er0 ⊢
    clear s1 s2 s3 s4 s5 s6 s7 e1 e2 e3 e4 e5 e6 e7
    have hS5 := s47.seq hS4
    have hE5 := ents_same s47 hE4
    have hk5 := hk4.same s47
    have lps := paired_len hE5
    rw [List.length_map] at lps
    refine ⟨el, rfl, ⟨_, hS5⟩, fun D hD => ?_⟩
    refine lc_pr (β := Ed × Int) (walk_list (K := K) (xs := ps.map V.ref)) hD (by rw [List.length_map]; omega) (fun H s => s.seq hS5) (fun H q r => PrE K H q r) (fun _ _ _ _ s h => h.same s) (fun _ _ _ _ _ _ h e => h.updE e) (xs.map fun x => (x, n + 1)) (by rw [List.length_map, List.length_map]; omega) (fun i y H1 H2 C E hi s1 hy hC => ?_) (fun H6 qs s6 e6 hQ => ?_)
    · obtain ⟨rfl, hx⟩ := hy
      rw [List.getElem?_map] at hx
      obtain ⟨q1, hq1, rfl⟩ := Option.map_eq_some_iff.mp hx
      obtain ⟨e, he, hE1⟩ := paired_get hE5 i q1 hq1
      rw [List.getElem?_map] at he
      obtain ⟨x, hx2, rfl⟩ := Option.map_eq_some_iff.mp he
      walk_at "go"
      rename_i T hT
      have s2 := same_new (o := .tup [.ref q1, .int (n + 1)]) hT
      exact hC T (x, n + 1) _ (by rw [List.getElem?_map, hx2]; rfl) s2 ⟨q1, true, SqT.of upd_same, hE1.same (s1.trans s2)⟩
    walk_at "go"
    refine ⟨_, _, rfl, .inl ⟨SqL.of e6, fun pt hpt => ?_⟩⟩
    have s7 := same_new (o := .tup (qs.map V.ref)) hpt
    have ept := SqT.of (K := K) (upd_same (H := H6) (a := pt) (o := .tup (qs.map V.ref)))
    have hQ7 := paired_imp (fun _ _ h => PrE.same h s7) hQ
    have s57 := s6.trans s7
    generalize upd H6 pt (.tup (qs.map V.ref)) = H7 at s7 ept hQ7 s57 ⊢
    have hS7 := s57.seq hS5
    have hE7 := ents_same s57 hE5
    have hk7 := hk5.same s57
    walk_at "go"
    intro D2 hD2
    refine lc_pr (β := Ed × Int) (walk_list (K := K) (xs := ps.map V.ref)) hD2 (by rw [List.length_map]; omega) (fun H s => s.seq hS7) (fun H q r => PrE K H q r) (fun _ _ _ _ s h => h.same s) (fun _ _ _ _ _ _ h e => h.updE e) (xs.map fun x => (x.sl ks, n + 1)) (by rw [List.length_map, List.length_map]; omega) (fun i y H1 H2 C E hi s1 hy hC => ?_) (fun H8 qs2 s8 e8 hQ8 => ?_)
    · obtain ⟨rfl, hx⟩ := hy
      rw [List.getElem?_map] at hx
      obtain ⟨q1, hq1, rfl⟩ := Option.map_eq_some_iff.mp hx
      obtain ⟨e, he, hE1⟩ := paired_get hE7 i q1 hq1
      rw [List.getElem?_map] at he
      obtain ⟨x, hx2, rfl⟩ := Option.map_eq_some_iff.mp he
      walk_at "go"
      refine ⟨_, _, rfl, q1, q, x, ks, true, rfl, rfl, hE1.same s1, hok x (List.mem_of_getElem? hx2), hk7.same s1, fun r H3 s3 hr => ?_⟩
      walk_at "go"
      rename_i T hT
      have s2 := same_new (o := .tup [.ref r, .int (n + 1)]) hT
      exact hC T (x.sl ks, n + 1) _ (by rw [List.getElem?_map, hx2]; rfl) (s3.trans s2) ⟨r, true, SqT.of upd_same, hr.same s2⟩
    walk_at "go"
    refine ⟨_, _, rfl, .inl ⟨SqL.of e8, fun pt2 hpt2 => ?_⟩⟩
    have s9 := same_new (o := .tup (qs2.map V.ref)) hpt2
    have ept2 := SqT.of (K := K) (upd_same (H := H8) (a := pt2) (o := .tup (qs2.map V.ref)))
    have hQ9 := paired_imp (fun _ _ h => PrE.same h s9) hQ8
    have s79 := s8.trans s9
    generalize upd H8 pt2 (.tup (qs2.map V.ref)) = H9 at s9 ept2 hQ9 s79 ⊢
    have hk9 := hk7.same s79
    have ept9 : SqT K H9 pt (qs.map V.ref) := same_tup s79 ept
    have hQ79 := paired_imp (fun _ _ h => PrE.same h s79) hQ7
    have l9 : LL K H9 ks r0 [h3, h6] [.hello (1 + n / 8000), .ask n] := ⟨(s57.trans s79) _ _ er0, .cons (La.same (s57.trans s79)) (.cons (Lb.same (s57.trans s79)) .nil)⟩
    have er9 := l9.1
    have lqs := paired_len hQ79
    rw [List.length_map] at lqs
    clear La Lb er0 hS4 hE4 hk4 hS5 hE5 hk5 hS7 hE7 hk7 hQ hQ7 hQ8 e6 e8 hD hD2 hpt hpt2 ept s6 s7 s8 s9
    walk_at "go"
    rename_i a1 g1 a2 g2 a3 g3
    have s1 := same_new (o := .tup [.str "entries", .int n, .int (n + 3), .ref pt]) g1
    have s2 := same_new (o := .tup [.str "entries", .int n, .int (n + 3), .ref pt2]) g2
    have s3 := same_new (o := .tup [.ref a1, .ref a2]) g3
    have s13 := s1.trans (s2.trans s3)
    have hC : PrL K _ ks a3 (.entries n (n + 3) (xs.map fun x => (x, n + 1))) := ⟨a1, a2, SqT.of upd_same, ⟨pt, qs, SqT.of ((s2.trans s3) _ _ upd_same), same_tup s13 ept9, paired_imp (fun _ _ h => PrE.same h s13) hQ79⟩, by
      show LtH K _ a2 (.entries n (n + 3) ((xs.map fun x => (x, n + 1)).map fun r => (r.1.sl ks, r.2)))
      rw [List.map_map]
      exact ⟨pt2, qs2, SqT.of (s3 _ _ upd_same), same_tup s13 ept2, paired_imp (fun _ _ h => PrE.same h s13) hQ9⟩, by rw [List.length_map]; omega, fun r hr => by
      obtain ⟨x, hx, rfl⟩ := List.mem_map.mp hr
      exact hok x hx⟩
    have l10 := l9.same s13
    have hk10 := hk9.same s13
    clear l9 hk9 er9
    generalize upd (upd (upd H9 a1 (.tup [.str "entries", .int n, .int (n + 3), .ref pt])) a2 (.tup [.str "entries", .int n, .int (n + 3), .ref pt2])) a3 (.tup [.ref a1, .ref a2]) = H10 at s13 hC l10 hk10 ⊢
    have l11 := l10.add hC
    have hk11 := hk10.updE (o := .lst ([h3, h6].map V.ref ++ [.ref a3])) l10.1
    refine ⟨r0, _, _, rfl, rfl, l10.1, ?_⟩
    refine ⟨(by show 2 < sizeLine; decide), ?_⟩
    have s411 : Same H4 (upd H10 r0 (.lst ([h3, h6].map V.ref ++ [.ref a3]))) := Same.mut (s47.trans (s57.trans (s79.trans s13))) er0n
    clear s1 s2 s3 g1 g2 g3 s13 hC l10 hk10
    generalize upd H10 r0 (.lst ([h3, h6].map V.ref ++ [.ref a3])) = H11 at l11 hk11 s411 ⊢
    have er11 : H11 r0 = some (.lst [.ref h3, .ref h6, .ref a3]) := l11.1
    walk_at "go"
    rename_i b1 g1
    have s1 := same_new (o := .tup [.str "request", .str (nmS ds ++ t0), .int 3, .int (bnum c)]) g1
    have hk12 := hk11.same s1
    refine ⟨_, _, rfl, ds, ks, t0, q, rfl, rfl, hk12.1, hk12.2, hd, ht, by omega, fun H12 s2 => ?_⟩
    walk_at "go"
    rename_i b2 g2 b3 g3
    have s3 := same_new (o := .tup [.str "request", .str (nmS (mix 66 ks ds) ++ t0), .int 3, .int (bnum (mix 256 ks c))]) g2
    have s4 := same_new (o := .tup [.ref b1, .ref b2]) g3
    have s14 := s1.trans (s2.trans (s3.trans s4))
    have hC : PrL K _ ks b3 (.request ds t0 3 c) := ⟨b1, b2, SqT.of upd_same, SqT.of ((s2.trans (s3.trans s4)) _ _ upd_same), SqT.of (s4 _ _ upd_same), hd, l1, l2, ht, lt, hP⟩
    have l12 := l11.same s14
    have hk13 := hk11.same s14
    generalize upd (upd H12 b2 (.tup [.str "request", .str (nmS (mix 66 ks ds) ++ t0), .int 3, .int (bnum (mix 256 ks c))])) b3 (.tup [.ref b1, .ref b2]) = H13 at s14 hC l12 hk13 ⊢
    have l13 := l12.add hC
    have hk14 := hk13.updE (o := .lst (([h3, h6] ++ [a3]).map V.ref ++ [.ref b3])) l12.1
    refine ⟨r0, _, _, rfl, rfl, l12.1, (by show 3 < sizeLine; decide), ?_⟩
    have s414 : Same H4 (upd H13 r0 (.lst (([h3, h6] ++ [a3]).map V.ref ++ [.ref b3]))) := Same.mut (s411.trans s14) er0n
    clear s1 s2 s3 s4 g1 g2 g3 s14 hC l12 hk13 hk12 hk11 l11 er11 s411
    generalize upd H13 r0 (.lst (([h3, h6] ++ [a3]).map V.ref ++ [.ref b3])) = H14 at l13 hk14 s414 ⊢
    have er14 : H14 r0 = some (.lst [.ref h3, .ref h6, .ref a3, .ref b3]) := l13.1
    walk_at "go"
    refine ⟨_, rfl, c, rfl, hP, fun d1 H15 s1 hd1 => ?_⟩
    walk_at "go"
    rename_i c1 g1
    have s2 := same_new (o := .tup [.str "block", .int (bnum c), .ref d1]) g1
    have mP := mix_piece (ks := ks) hP
    refine ⟨_, rfl, mix 256 ks c, rfl, mP, fun d2 H16 s3 hd2 => ?_⟩
    walk_at "go"
    rename_i c2 g2 c3 g3
    have s4 := same_new (o := .tup [.str "block", .int (bnum (mix 256 ks c)), .ref d2]) g2
    have s5 := same_new (o := .tup [.ref c1, .ref c2]) g3
    have s15 := s1.trans (s2.trans (s3.trans (s4.trans s5)))
    have hC : PrL K _ ks c3 (.block c) := ⟨c1, c2, SqT.of upd_same, ⟨d1, SqT.of ((s3.trans (s4.trans s5)) _ _ upd_same), same_tup (s2.trans (s3.trans (s4.trans s5))) hd1⟩, ⟨d2, SqT.of (s5 _ _ upd_same), same_tup (s4.trans s5) hd2⟩, hP⟩
    have l15 := l13.same s15
    generalize upd (upd H16 c2 (.tup [.str "block", .int (bnum (mix 256 ks c)), .ref d2])) c3 (.tup [.ref c1, .ref c2]) = H17 at s15 hC l15 ⊢
    have l16 := l15.add hC
    refine ⟨r0, _, _, rfl, rfl, l15.1, (by show 4 < sizeLine; decide), ?_⟩
    have s418 : Same H4 (upd H17 r0 (.lst (([h3, h6] ++ [a3] ++ [b3]).map V.ref ++ [.ref c3]))) := Same.mut (s414.trans s15) er0n
    clear s1 s2 s3 s4 s5 g1 g2 g3 s15 hC l15 l13 er14 s414 hd1 hd2 hk14
    generalize upd H17 r0 (.lst (([h3, h6] ++ [a3] ++ [b3]).map V.ref ++ [.ref c3])) = H18 at l16 s418 ⊢
    have er18 : H18 r0 = some (.lst [.ref h3, .ref h6, .ref a3, .ref b3, .ref c3]) := l16.1
    walk_at "go"
    rename_i x1 g1 x2 g2 x3 g3 lx9 g4
    have s1 := same_new (o := .tup [.str "refused", .int (bnum c)]) g1
    have s2 := same_new (o := .tup [.str "refused", .int (bnum (mix 256 ks c))]) g2
    have s3 := same_new (o := .tup [.ref x1, .ref x2]) g3
    have s4 := same_new (o := .lst [.ref x3]) g4
    have hC : PrL K _ ks x3 (.refused c) := PrL.same ⟨x1, x2, SqT.of upd_same, SqT.of ((s2.trans s3) _ _ upd_same), SqT.of (s3 _ _ upd_same), hP⟩ s4
    have s14 := s1.trans (s2.trans (s3.trans s4))
    refine e_cat (s14 _ _ er18) (ys := [.ref x3]) upd_same (by simp) fun rl hrl => ?_
    have s5 := same_new (o := .lst ([.ref h3, .ref h6, .ref a3, .ref b3, .ref c3] ++ [.ref x3])) hrl
    have lf := (l16.same s14).2
    exact k rl [h3, h6, a3, b3, c3, x3] _ _ (k14.trans (Kp.of (s418.trans (s14.trans s5)))) (SqL.of upd_same) (by show 6 ≤ 20; decide) (paired_imp (fun _ _ h => PrL.same h s5) (paired_snoc lf hC))
theorem ok_law (T : Txt K mg)  (c_law_draws : Cal P w K mg base 1 "_law_draws" (sp_law_draws K)) (c_law_key : Cal P w K mg base 2 "_law_key" (sp_law_key K)) (c_law_any_name : Cal P w K mg base 3 "_law_any_name" (sp_law_any_name K)) (c_law_draw : Cal P w K mg base 1 "_law_draw" (sp_law_draw K)) (c_law_entry : Cal P w K mg base 3 "_law_entry" (sp_law_entry K)) (c_seal_entry : Cal P w K mg base 4 "seal_entry" (sp_seal_entry K)) (e_Entry : EqC P w K mg base 1 "Entry" (sp_Entry___eq__ K)) (c_open_entry : Cal P w K mg base 4 "open_entry" (sp_open_entry K)) (c_law_sealed : Cal P w K mg base 5 "_law_sealed" (sp_law_sealed K)) (c_copy_name : Cal P w K mg base 2 "copy_name" (sp_copy_name K)) (c_seal_name : Cal P w K mg base 3 "seal_name" (sp_seal_name K)) (c_alike : Cal P w K mg base 1 "alike" (sp_alike K)) (c_winner : Cal P w K mg base 5 "winner" (sp_winner K)) (c_law_letters : Cal P w K mg base 7 "_law_letters" (sp_law_letters K)) (c_open_letter : Cal P w K mg base 6 "open_letter" (sp_open_letter K)) (c_seal_letter : Cal P w K mg base 6 "seal_letter" (sp_seal_letter K)) {f : Addr} {fd : FuncData} (F : FnP K "law" s_law f fd) : FnOk P w K mg base CX0 8 f fd ["script"] (sp_law K) := by
  refine F.ok sc_law (fun vs H Q E h => ?_) (fun cdv A outer s H vs Q E hr h => ?_)
  · obtain ⟨_, rfl, _⟩ := h
    rfl
  · have S := sc_law
    refine ⟨_, PSs.nox (pss_cons (ps_set (i := 1) S.nd rfl (by first | exact .inl rfl | exact .inr rfl | exact .inr (.inl rfl) | exact .inr (.inr rfl)) (pe_c c_law_draws hr (by decide) (by rfl) (pa_cons (pv 0) pa_nil)))
    (pss_cons (ps_set (i := 2) S.nd rfl (by first | exact .inl rfl | exact .inr rfl | exact .inr (.inl rfl) | exact .inr (.inr rfl)) (pe_c c_law_key hr (by decide) (by rfl) (pa_cons (pv 1) pa_nil)))
    (pss_cons (ps_set (i := 3) S.nd rfl (by first | exact .inl rfl | exact .inr rfl | exact .inr (.inl rfl) | exact .inr (.inr rfl)) (pe_c c_law_any_name hr (by decide) (by rfl) (pa_cons (pv 1) pa_nil)))
    (pss_cons (ps_setLc (i := 4) (own := [("k", 6)]) (g := gName 6) (tt := tYes) rfl S.nd rfl rfl (sw_true rfl rfl rfl (by decide +kernel)) (pi_range1 (by rfl) T.f_range (pa_cons (pe_op op_add pe_int (pe_c c_law_draw hr (by decide) (by rfl) (pa_cons (pv 1) (pa_cons pe_int pa_nil)))) pa_nil)) (blkOk_by (N := N_law) (sc := defScope s_law) (by decide +kernel)) (fun _ _ _ _ _ => (pg_name (i := 6) S.nd rfl (by first | exact .inl rfl | exact .inr rfl | exact .inr (.inl rfl) | exact .inr (.inr rfl)))) (fun _ _ _ _ _ => pts_nil) (fun _ _ _ _ _ => (pe_c c_law_entry hr (by decide) (by rfl) (pa_cons (pv 1) (pa_cons (pv 3) pa_nil)))))
    (pss_cons (ps_setLc (i := 5) (own := [("entry", 10)]) (g := gName 10) (tt := tYes) rfl S.nd rfl rfl (sw_true rfl rfl rfl (by decide +kernel)) (pi_list (pv 4)) (blkOk_by (N := N_law) (sc := defScope s_law) (by decide +kernel)) (fun _ _ _ _ _ => (pg_name (i := 10) S.nd rfl (by first | exact .inl rfl | exact .inr rfl | exact .inr (.inl rfl) | exact .inr (.inr rfl)))) (fun _ _ _ _ _ => pts_nil) (fun _ _ _ _ _ => (pe_c c_seal_entry hr (by decide) (by rfl) (pa_cons (pv 10) (pa_cons (pv 2) pa_nil)))))
    (pss_cons (ps_for PassesOwn.never rfl (pi_range1 (by rfl) T.f_range (pa_cons (pe_callB call_len_seq (by rfl) T.f_len (by first | rfl | decide +kernel) (pa_cons (pv 4) pa_nil)) pa_nil)) (pg_name (i := 6) S.nd rfl (by first | exact .inl rfl | exact .inr rfl | exact .inr (.inl rfl) | exact .inr (.inr rfl)))
    (pss_cons (ps_if (pw_or (pt_cmpR (op_neC e_Entry T.cn_Entry hr (by decide)) (pe_ix ix_list (pv 5) (pv 6) (fun _ _ => rfl)) (pe_c c_law_sealed hr (by decide) (by rfl) (pa_cons (pe_ix ix_list (pv 4) (pv 6) (fun _ _ => rfl)) (pa_cons (pv 2) pa_nil))) (nomark _)) (pw_or1 (pt_cmpR (op_neC e_Entry T.cn_Entry hr (by decide)) (pe_c c_open_entry hr (by decide) (by rfl) (pa_cons (pe_ix ix_list (pv 5) (pv 6) (fun _ _ => rfl)) (pa_cons (pv 2) pa_nil))) (pe_ix ix_list (pv 4) (pv 6) (fun _ _ => rfl)) (nomark _)))).pt
      (pss_one (ps_ret pe_bl))
      pss_nil)
      (pss_cons (ps_if (pt_cmpR op_ne (pe_c c_copy_name hr (by decide) (by rfl) (pa_cons (pe_ix ix_list (pv 5) (pv 6) (fun _ _ => rfl)) pa_nil)) (pe_c c_seal_name hr (by decide) (by rfl) (pa_cons (pe_c c_copy_name hr (by decide) (by rfl) (pa_cons (pe_ix ix_list (pv 4) (pv 6) (fun _ _ => rfl)) pa_nil)) (pa_cons (pv 2) pa_nil))) (nomark _))
      (pss_one (ps_ret pe_bl))
      pss_nil)
      (pss_one (ps_for PassesOwn.never rfl (pi_range1 (by rfl) T.f_range (pa_cons (pv 6) pa_nil)) (pg_name (i := 7) S.nd rfl (by first | exact .inl rfl | exact .inr rfl | exact .inr (.inl rfl) | exact .inr (.inr rfl)))
      (pss_one (ps_if (pt_cmpR op_ne (pe_c c_alike hr (by decide) (by rfl) (pa_cons (pe_ix ix_list (pv 5) (pv 6) (fun _ _ => rfl)) (pa_cons (pe_ix ix_list (pv 5) (pv 7) (fun _ _ => rfl)) pa_nil))) (pe_c c_alike hr (by decide) (by rfl) (pa_cons (pe_ix ix_list (pv 4) (pv 6) (fun _ _ => rfl)) (pa_cons (pe_ix ix_list (pv 4) (pv 7) (fun _ _ => rfl)) pa_nil))) (nomark _))
        (pss_one (ps_ret pe_bl))
        pss_nil)))))))
    (pss_cons (ps_if (pt_cmpR (op_neC e_Entry T.cn_Entry hr (by decide)) (pe_c c_winner hr (by decide) (by rfl) (pa_cons (pv 5) pa_nil)) (pe_c c_seal_entry hr (by decide) (by rfl) (pa_cons (pe_c c_winner hr (by decide) (by rfl) (pa_cons (pv 4) pa_nil)) (pa_cons (pv 2) pa_nil))) (nomark _))
    (pss_one (ps_ret pe_bl))
    pss_nil)
    (pss_cons (ps_for PassesOwn.never rfl (pi_list (pe_c c_law_letters hr (by decide) (by rfl) (pa_cons (pv 1) (pa_cons (pv 4) (pa_cons (pv 2) pa_nil))))) (pg_tup rfl (pgs_cons (pg_name (i := 8) S.nd rfl (by first | exact .inl rfl | exact .inr rfl | exact .inr (.inl rfl) | exact .inr (.inr rfl))) (pgs_cons (pg_name (i := 9) S.nd rfl (by first | exact .inl rfl | exact .inr rfl | exact .inr (.inl rfl) | exact .inr (.inr rfl))) pgs_nil)))
    (pss_one (ps_if (pw_or (pt_cmpR (op_neL e_Entry hr (by decide)) (pe_c c_seal_letter hr (by decide) (by rfl) (pa_cons (pv 8) (pa_cons (pv 2) pa_nil))) (pv 9) (nomark _)) (pw_or1 (pt_cmpR (op_neL e_Entry hr (by decide)) (pe_c c_open_letter hr (by decide) (by rfl) (pa_cons (pv 9) (pa_cons (pv 2) pa_nil))) (pv 8) (nomark _)))).pt
      (pss_one (ps_ret pe_bl))
      pss_nil)))
    (pss_one (ps_ret pe_bl)))))))))), ?_⟩
    try dsimp only [cxOf, Cx.nox]
    have t : ET K := ⟨T.cl_Entry, T.no_Entry_name, T.no_Entry_vector, T.no_Entry_height, T.no_Entry_maker, T.no_Entry_deleted, T.no_Entry_time, T.no_Entry_blocks⟩
    obtain ⟨_, rfl, sa, ns, rfl, hsa, hns, k⟩ := h
    walk_at "go"
    refine ⟨_, rfl, sa, ns, rfl, hsa, hns, fun st sc H1 hst s1 d1 => ?_⟩
    walk_at "go"
    refine ⟨_, rfl, st, sc, ns, rfl, d1, fun q ks H2 hq k2 d2 eq hk => ?_⟩
    have nq := d1.free hq
    walk_at "go"
    refine ⟨_, rfl, st, sc, ns, rfl, d2, fun ds t0 H3 hd l1 l2 ht lt k3 d3 => ?_⟩
    have eq3 := k3 _ _ nq eq
    walk_at "go"
    refine ⟨_, _, rfl, st, sc, ns, _, rfl, rfl, d3, by decide, by decide, fun n H4 n0 n1 k4 d4 => ?_⟩
    have eq4 := k4 _ _ nq eq3
    walk_at "go"
    intro D hD
    refine lc_dwX d4 hD (by omega) (fun i H5 C E hi k5 d5 hC => ?_) (fun H5 ps xs k5 d5 e5 lx hE hok => ?_)
    · walk_at "go"
      exact ⟨_, _, rfl, st, sc, ns, ds, t0, rfl, rfl, d5, hd, l1, l2, ht, lt, fun r x H6 k6 d6 ok hE => hC r x H6 k6 d6 ok hE⟩
    have eq5 := k5 _ _ nq eq4
    have hk5 : KeyA K (hid [st] H5) q ks := ⟨SqT.of (by rw [hid_at (by simp [nq])]; exact eq5), hk⟩
    have nD := d4.free hD
    have e5' : hid [st] H5 D = some (.lst (ps.map V.ref)) := by rw [hid_at (by simp [nD])]; exact e5
    have lps := paired_len hE
    rw [List.length_map] at lps
    have hE5 : Ents K H5 true ps (xs.map Ed.en) := ents_same hid_sub hE
    have hkk5 := hk5.same hid_sub
    clear k5 d4 eq4 k4 d3 eq3 k3 d2 eq k2 d1 s1 eq5
    walk_at "go"
    intro D2 hD2
    refine lc_pr (β := Ed) (walk_list (K := K) (xs := ps.map V.ref)) hD2 (by rw [List.length_map]; omega) (fun H s => s.seq (SqL.of e5)) (fun (H : Hp) (q : Addr) (x : Ed) => Ent K H true q (x.sl ks).en) (fun _ _ _ _ s h => h.same s) (fun _ _ _ _ _ _ h e => h.updE e) xs (by rw [List.length_map]; omega) (fun i y H1 H2 C E hi s1 hy hC => ?_) (fun H6 qs s6 e6 hQ => ?_)
    · obtain ⟨rfl, hx⟩ := hy
      rw [List.getElem?_map] at hx
      obtain ⟨q1, hq1, rfl⟩ := Option.map_eq_some_iff.mp hx
      obtain ⟨e, he, hE1⟩ := paired_get hE5 i q1 hq1
      rw [List.getElem?_map] at he
      obtain ⟨x, hx2, rfl⟩ := Option.map_eq_some_iff.mp he
      walk_at "go"
      exact ⟨_, _, rfl, q1, q, x, ks, true, rfl, rfl, hE1.same s1, hok x (List.mem_of_getElem? hx2), hkk5.same s1, fun r H3 s3 hr => hC r x H3 hx2 s3 hr⟩
    have hE6 := ents_same s6 hE5
    have hk6 := hkk5.same s6
    have e56 := s6 _ _ e5
    have lqs := paired_len hQ
    walk_at "go"
    rw [List.length_map]
    have lxs : 1 ≤ xs.length ∧ xs.length ≤ 5 := by omega
    have hbest : (bestE xs).Ok := hok _ (getD_mem (by
      have := mxI_lt (kdL (xs.map Ed.en)) (n := (xs.map Ed.en).length) (by rw [List.length_map]; omega)
      rw [List.length_map] at this ⊢
      exact this))
    refine ⟨by omega, by omega, ?_⟩
    have at_ : ∀ {i : Nat} {H : Hp}, i < ps.length → Same H6 H → ∃ (x : Ed) (p s : Addr), x ∈ xs ∧ x.Ok ∧ atI (ps.map V.ref) (0 + (i : Int)) = some (.ref p) ∧ atI (qs.map V.ref) (0 + (i : Int)) = some (.ref s) ∧ Ent K H true p x.en ∧ Ent K H true s (x.sl ks).en := fun {i H} hi s => by
      obtain ⟨x, hx⟩ : ∃ x, xs[i]? = some x := ⟨_, List.getElem?_eq_getElem (by omega)⟩
      obtain ⟨p, hp⟩ : ∃ p, ps[i]? = some p := ⟨_, List.getElem?_eq_getElem hi⟩
      obtain ⟨q9, hq9⟩ : ∃ p, qs[i]? = some p := ⟨_, List.getElem?_eq_getElem (by omega)⟩
      obtain ⟨e, he, h1⟩ := paired_get hE6 i p hp
      rw [List.getElem?_map, hx] at he
      cases he
      obtain ⟨x2, he2, h2⟩ := paired_get hQ i q9 hq9
      rw [hx] at he2
      cases he2
      exact ⟨x, p, q9, List.mem_of_getElem? hx, hok x (List.mem_of_getElem? hx), at_of (j := i) (by omega) (by rw [List.getElem?_map, hp]; rfl), at_of (j := i) (by omega) (by rw [List.getElem?_map, hq9]; rfl), h1.same s, h2.same s⟩
    refine for_rng (fun i σ H7 => (∃ v6 v7 : Option V, σ = [some (.ref sa), some (.ref st), some (.ref q), some (.str (nmS ds ++ t0)), some (.ref D), some (.ref D2), v6, v7, none, none, none]) ∧ Same H6 H7) ⟨⟨_, _, rfl⟩, Same.refl _⟩ (fun i σ H7 hi z => ?_) (fun σ H7 z => ?_)
    · obtain ⟨⟨v6, v7, rfl⟩, s7⟩ := z
      have hi2 : i < ps.length := by omega
      obtain ⟨x, p, q9, mx9, ok9, a1, a2, h1, h2⟩ := at_ hi2 s7
      walk_at "go"
      refine e_ixL (SqL.of (s7 _ _ e6)) a2 ?_
      walk_at "go"
      refine e_ixL (SqL.of (s7 _ _ e56)) a1 ?_
      walk_at "go"
      refine ⟨_, _, rfl, p, q, x, ks, true, rfl, rfl, h1, ok9, hk6.same s7, fun r H8 s8 hr => ?_⟩
      refine e_neSE (h2.same s8) hr ?_
      have s78 := s7.trans s8
      walk_at "go"
      refine e_ixL (SqL.of (s78 _ _ e6)) a2 ?_
      walk_at "go"
      refine ⟨_, _, rfl, q9, q, x, ks, true, rfl, rfl, h2.same s8, ok9, hk6.same s78, fun r H9 s9 hr => ?_⟩
      have s79 := s78.trans s9
      walk_at "go"
      refine e_ixL (SqL.of (s79 _ _ e56)) a1 ?_
      refine e_neSE hr (h1.same (s8.trans s9)) ?_
      walk_at "go"
      refine e_ixL (SqL.of (s79 _ _ e6)) a2 ?_
      walk_at "go"
      refine ⟨_, rfl, q9, x.sl ks, true, rfl, h2.same (s8.trans s9), ok9.sl ks, fun t10 H10 s10 et10 => ?_⟩
      have s710 := s79.trans s10
      walk_at "go"
      refine e_ixL (SqL.of (s710 _ _ e56)) a1 ?_
      walk_at "go"
      refine ⟨_, rfl, p, x, true, rfl, h1.same ((s8.trans s9).trans s10), ok9, fun t11 H11 s11 et11 => ?_⟩
      have s711 := s710.trans s11
      have hk11 := hk6.same s711
      obtain ⟨tt1, tt2⟩ := tlM_ok ok9
      walk_at "go"
      refine ⟨_, _, rfl, x.ds, ks, tlM x.mr, q, by rw [et11, cp_split], rfl, hk11.1, hk11.2, ok9.d, tt1, by have := ok9.l2; omega, fun H12 s12 => ?_⟩
      rw [et10, cp_split]
      have s712 := s711.trans s12
      walk_at "go"
      refine i_neself ?_
      walk_at "go"
      refine for_rng (fun j σ H13 => (∃ v7 : Option V, σ = [some (.ref sa), some (.ref st), some (.ref q), some (.str (nmS ds ++ t0)), some (.ref D), some (.ref D2), some (.int (0 + (i : Int))), v7, none, none, none]) ∧ Same H6 H13) ⟨⟨_, rfl⟩, s712⟩ (fun j σ H13 hj z => ?_) (fun σ H13 z => ?_)
      · obtain ⟨⟨v7, rfl⟩, s13⟩ := z
        have hj2 : j < ps.length := by omega
        obtain ⟨x', p1, q1, mx', okx, a1', a2', h1', h2'⟩ := at_ hi2 s13
        obtain ⟨y, p', q', my, oky, b1, b2, g1, g2⟩ := at_ hj2 s13
        walk_at "go"
        refine e_ixL (SqL.of (s13 _ _ e6)) a2' ?_
        walk_at "go"
        refine e_ixL (SqL.of (s13 _ _ e6)) b2 ?_
        walk_at "go"
        refine ⟨_, _, rfl, q1, q', true, true, _, _, rfl, rfl, h2', g2, ?_⟩
        rw [alk_sl hk okx oky]
        walk_at "go"
        refine e_ixL (SqL.of (s13 _ _ e56)) a1' ?_
        walk_at "go"
        refine e_ixL (SqL.of (s13 _ _ e56)) b1 ?_
        walk_at "go"
        refine ⟨_, _, rfl, p1, p', true, true, _, _, rfl, rfl, h1', g1, ?_⟩
        walk_at "go"
        refine i_neself ?_
        walk_at "go"
        exact ⟨⟨_, rfl⟩, s13⟩
      · obtain ⟨⟨v7, rfl⟩, s13⟩ := z
        exact ⟨⟨_, _, rfl⟩, s13⟩
    · obtain ⟨⟨v6, v7, rfl⟩, s7⟩ := z
      have hQ7 : Ents K H7 true qs (xs.map fun x => (x.sl ks).en) := prd_mapR (paired_imp (fun _ _ h => h.same s7) hQ)
      have hE7 := ents_same s7 hE6
      have hk7 := hk6.same s7
      walk_at "go"
      refine ⟨_, rfl, D2, qs, _, rfl, SqL.of (s7 _ _ e6), hQ7, fun e he => ?_, by rw [List.length_map]; omega, by rw [List.length_map]; omega, fun r1 H8 s8 hr1 => ?_⟩
      · obtain ⟨x, hx, rfl⟩ := List.mem_map.mp he
        exact (hok x hx).nn
      rw [win_sl hk hok hbest] at hr1
      walk_at "go"
      refine ⟨_, rfl, D, ps, _, rfl, SqL.of ((s7.trans s8) _ _ e56), ents_same s8 hE7, fun e he => ?_, by rw [List.length_map]; omega, by rw [List.length_map]; omega, fun r2 H9 s9 hr2 => ?_⟩
      · obtain ⟨x, hx, rfl⟩ := List.mem_map.mp he
        exact (hok x hx).nn
      rw [← wEd_en] at hr2
      walk_at "go"
      refine ⟨_, _, rfl, r2, q, wEd xs, ks, true, rfl, rfl, hr2, wEd_ok hok hbest, hk7.same (s8.trans s9), fun r3 H10 s10 hr3 => ?_⟩
      refine e_neSE (hr1.same (s9.trans s10)) hr3 ?_
      have s710 := ((s7.trans s8).trans s9).trans s10
      have s510 := s6.trans s710
      walk_at "go"
      refine ⟨_, _, _, rfl, st, sc, D, q, ns, ks, ps, xs, rfl, rfl, rfl, d5.same s510, SqL.of (hid_same s510 _ _ e5'), ents_same (hid_same s510) hE, hok, by omega, hk5.same (hid_same s510), fun rl ql Ls H11 k11 hrl lql hL => ?_⟩
      have hk11 : KeyA K H11 q ks := ((hk5.same (hid_same s510)).same (kp_same k11)).same hid_sub
      walk_at "go"
      refine for_list (K := K) (xs := ql.map V.ref) (fun i σ H12 => (∃ v6 v7 v8 v9 : Option V, σ = [some (.ref sa), some (.ref st), some (.ref q), some (.str (nmS ds ++ t0)), some (.ref D), some (.ref D2), v6, v7, v8, v9, none]) ∧ Same H11 H12) ⟨⟨_, _, _, _, rfl⟩, Same.refl _⟩ (fun i σ H12 _ z => z.2.seq hrl) (fun i y σ H12 hy z => ?_) (fun σ H12 z => ?_)
      · obtain ⟨⟨v6, v7, v8, v9, rfl⟩, s12⟩ := z
        rw [List.getElem?_map] at hy
        obtain ⟨q1, hq1, rfl⟩ := Option.map_eq_some_iff.mp hy
        obtain ⟨L, _, a, b, t1, t2, t3, okL⟩ := paired_get hL i q1 hq1
        have t1 := same_tup s12 t1
        have t2 := t2.same s12
        have t3 := t3.same s12
        have hk12 := hk11.same s12
        walk_at "go"
        refine ⟨_, _, rfl, a, q, L, ks, rfl, rfl, t2, okL, hk12, fun r H13 s13 hr => ?_⟩
        walk_at "go"
        refine ⟨ltH_eq hr (t3.same s13), fun H14 s14 => ?_⟩
        have s14 : Same H13 H14 := s14
        have s24 := s13.trans s14
        walk_at "go"
        refine ⟨_, _, rfl, b, q, L, ks, rfl, rfl, t3.same s24, okL, hk12.same s24, fun r2 H15 s15 hr2 => ?_⟩
        walk_at "go"
        refine ⟨ltH_eq hr2 (t2.same (s24.trans s15)), fun H16 s16 => ?_⟩
        have s16 : Same H15 H16 := s16
        walk_at "go"
        exact ⟨⟨_, _, _, _, rfl⟩, s12.trans (s24.trans (s15.trans s16))⟩
      · obtain ⟨⟨v6, v7, v8, v9, rfl⟩, s12⟩ := z
        walk_at "go"
        exact k H12
end
theorem facts {P : Program} {w : World} {K : PySem.W.Frag} {h : Heap} {mg : Str → Option Value} {f : Addr} (X : K.In h) (G : h.Ns mainGlobals mg) (hfa : mg ("law" : Str) = some (.ref f)) (cc : SaysX fa fn ex K) :
    ∃ fd : FuncData, (∀ (s : Shared) (v : Value), BindsTo s fd ⟨[v], []⟩ [("script", v)]) ∧ ∀ base : Heap, K.In base → base.Ns mainGlobals mg → FnOk P w K mg base CX0 8 f fd ["script"] (sp_law K) := by
  have c : He.SaysD fa fn K := cc.1
  have k_BLOCK : ∃ u, mg "BLOCK" = some u ∧ RelV (.int 4) u := by
    obtain ⟨t, e⟩ := He.int_ok X G (c.fact 62 (f := .int "BLOCK" 4) rfl)
    exact ⟨_, e, t, rfl⟩
  have k_BYTE_BASE : ∃ u, mg "BYTE_BASE" = some u ∧ RelV (.int 256) u := by
    obtain ⟨t, e⟩ := He.int_ok X G (c.fact 63 (f := .int "BYTE_BASE" 256) rfl)
    exact ⟨_, e, t, rfl⟩
  have k_CHARACTERS : ∃ u, mg "CHARACTERS" = some u ∧ RelV (.str "-./0123456789ABCDEFGHIJKLMNOPQRSTUVWXYZ_abcdefghijklmnopqrstuvwxyz~") u := by
    obtain ⟨t, e⟩ := He.str_ok X G (c.fact 64 (f := .str "CHARACTERS" "-./0123456789ABCDEFGHIJKLMNOPQRSTUVWXYZ_abcdefghijklmnopqrstuvwxyz~") rfl)
    exact ⟨_, e, t, rfl⟩
  have k_NAME_BASE : ∃ u, mg "NAME_BASE" = some u ∧ RelV (.int 66) u := by
    obtain ⟨t, e⟩ := He.int_ok X G (c.fact 65 (f := .int "NAME_BASE" 66) rfl)
    exact ⟨_, e, t, rfl⟩
  have T : Txt K mg := ⟨He.free_ok X G (c.fact 49 (f := .free "abs") rfl), He.free_ok X G (c.fact 50 (f := .free "dict") rfl), He.free_ok X G (c.fact 51 (f := .free "enumerate") rfl), He.free_ok X G (c.fact 52 (f := .free "int") rfl), He.free_ok X G (c.fact 53 (f := .free "isinstance") rfl), He.free_ok X G (c.fact 54 (f := .free "len") rfl), He.free_ok X G (c.fact 55 (f := .free "list") rfl), He.free_ok X G (c.fact 56 (f := .free "max") rfl), He.free_ok X G (c.fact 57 (f := .free "range") rfl), He.free_ok X G (c.fact 58 (f := .free "reversed") rfl), He.free_ok X G (c.fact 59 (f := .free "sorted") rfl), He.free_ok X G (c.fact 60 (f := .free "str") rfl), He.free_ok X G (c.fact 61 (f := .free "tuple") rfl), k_BLOCK, k_BYTE_BASE, k_CHARACTERS, k_NAME_BASE, He.glo_ok X G (c.fact 27 (f := .glo "_open_blocks") rfl), He.glo_ok X G (c.fact 26 (f := .glo "_seal_blocks") rfl), He.glo_ok X G (c.fact 30 (f := .glo "open_entry") rfl), He.glo_ok X G (c.fact 23 (f := .glo "open_name") rfl), He.glo_ok X G (c.fact 29 (f := .glo "seal_entry") rfl), He.glo_ok X G (c.fact 22 (f := .glo "seal_name") rfl), bfB_ok X G (cc.more 4 rfl), He.cls_ok (c.fact 66 (f := .cls "Entry") rfl), He.glo_ok X G (c.fact 48 (f := .glo "Entry") rfl), He.noat_ok (c.fact 67 (f := .noat "Entry" "name") rfl), He.noat_ok (c.fact 68 (f := .noat "Entry" "vector") rfl), He.noat_ok (c.fact 69 (f := .noat "Entry" "height") rfl), He.noat_ok (c.fact 70 (f := .noat "Entry" "maker") rfl), He.noat_ok (c.fact 71 (f := .noat "Entry" "deleted") rfl), He.noat_ok (c.fact 72 (f := .noat "Entry" "time") rfl), He.noat_ok (c.fact 73 (f := .noat "Entry" "blocks") rfl), clsB_ok (cc.more 0 rfl), clsLB_ok (cc.more 1 rfl), neB_ok (cc.more 2 rfl)⟩
  obtain ⟨fd_block_number, F_block_number⟩ := c.def_ 0 (d := d_block_number) rfl
  have c_block_number : ∀ base : Heap, Cal P w K mg base 1 "block_number" (sp_block_number K) := fun base => ⟨_, _, ["data"], ok_block_number T  F_block_number, He.glo_ok X G (c.fact 0 (f := .glo "block_number") rfl), F_block_number.kp, FunD.bindsN F_block_number fun _ _ _ _ _ _ us hl => match us, hl with | [_], _ => rfl⟩
  obtain ⟨fd_block_size, F_block_size⟩ := c.def_ 1 (d := d_block_size) rfl
  have c_block_size : ∀ base : Heap, Cal P w K mg base 1 "block_size" (sp_block_size K) := fun base => ⟨_, _, ["number"], ok_block_size T  F_block_size, He.glo_ok X G (c.fact 1 (f := .glo "block_size") rfl), F_block_size.kp, FunD.bindsN F_block_size fun _ _ _ _ _ _ us hl => match us, hl with | [_], _ => rfl⟩
  obtain ⟨fd_count_of, F_count_of⟩ := c.def_ 6 (d := d_count_of) rfl
  have c_count_of : ∀ base : Heap, Cal P w K mg base 1 "count_of" (sp_count_of K) := fun base => ⟨_, _, ["vector", "device"], ok_count_of T  F_count_of, He.glo_ok X G (c.fact 6 (f := .glo "count_of") rfl), F_count_of.kp, FunD.bindsN F_count_of fun _ _ _ _ _ _ us hl => match us, hl with | [_, _], _ => rfl⟩
  obtain ⟨fd_vector, F_vector⟩ := c.def_ 8 (d := d_vector) rfl
  have c_vector : ∀ base : Heap, Cal P w K mg base 1 "_vector" (sp_vector K) := fun base => ⟨_, _, ["counts"], ok_vector T  F_vector, He.glo_ok X G (c.fact 8 (f := .glo "_vector") rfl), F_vector.kp, FunD.bindsN F_vector fun _ _ _ _ _ _ us hl => match us, hl with | [_], _ => rfl⟩
  obtain ⟨fd_Entry___init__, F_Entry___init__⟩ := c.def_ 10 (d := d_Entry___init__) rfl
  have M_Entry := He.mkr_ok (c.fact 74 (f := .mkr "Entry") rfl)
  have c_Entry : ∀ base : Heap, C8.Mak P w K mg base 1 "Entry" (He.ga K "Entry") (sp_Entry___init__ K) [] := fun base => ⟨_, _, _, [], M_Entry, ok_Entry___init__ T  F_Entry___init__, He.glo_ok X G (c.fact 48 (f := .glo "Entry") rfl), FunD.bindsN F_Entry___init__ fun _ _ _ _ _ _ us hl => match us, hl with | [_, _, _, _, _, _, _, _], _ => rfl, .nil⟩
  obtain ⟨fd_Entry___eq__, F_Entry___eq__⟩ := c.def_ 11 (d := d_Entry___eq__) rfl
  obtain ⟨q1_Entry, q2_Entry⟩ := He.ba (cc.more 3 rfl : eqB "Entry" K = true)
  have e_Entry : ∀ base : Heap, EqC P w K mg base 1 "Entry" (sp_Entry___eq__ K) := fun base => ⟨_, _, _, ok_Entry___eq__ T  F_Entry___eq__, He.eqO_ok q1_Entry, q2_Entry, FunD.bindsN F_Entry___eq__ fun _ _ _ _ _ _ us hl => match us, hl with | [_, _], _ => rfl⟩
  obtain ⟨fd_alike, F_alike⟩ := c.def_ 12 (d := d_alike) rfl
  have c_alike : ∀ base : Heap, Cal P w K mg base 1 "alike" (sp_alike K) := fun base => ⟨_, _, ["first", "second"], ok_alike T  F_alike, He.glo_ok X G (c.fact 10 (f := .glo "alike") rfl), F_alike.kp, FunD.bindsN F_alike fun _ _ _ _ _ _ us hl => match us, hl with | [_, _], _ => rfl⟩
  obtain ⟨fd_root_of, F_root_of⟩ := c.def_ 15 (d := d_root_of) rfl
  have c_root_of : ∀ base : Heap, Cal P w K mg base 1 "root_of" (sp_root_of K) := fun base => ⟨_, _, ["name"], ok_root_of T  F_root_of, He.glo_ok X G (c.fact 13 (f := .glo "root_of") rfl), F_root_of.kp, FunD.bindsN F_root_of fun _ _ _ _ _ _ us hl => match us, hl with | [_], _ => rfl⟩
  obtain ⟨fd_factor, F_factor⟩ := c.def_ 19 (d := d_factor) rfl
  have c_factor : ∀ base : Heap, Cal P w K mg base 1 "factor" (sp_factor K) := fun base => ⟨_, _, ["number", "base"], ok_factor T  F_factor, He.glo_ok X G (c.fact 17 (f := .glo "factor") rfl), F_factor.kp, FunD.bindsN F_factor fun _ _ _ _ _ _ us hl => match us, hl with | [_, _], _ => rfl⟩
  obtain ⟨fd_number, F_number⟩ := c.def_ 20 (d := d_number) rfl
  have c_number : ∀ base : Heap, Cal P w K mg base 1 "_number" (sp_number K) := fun base => ⟨_, _, ["digits", "base"], ok_number T  F_number, He.glo_ok X G (c.fact 18 (f := .glo "_number") rfl), F_number.kp, FunD.bindsN F_number fun _ _ _ _ _ _ us hl => match us, hl with | [_, _], _ => rfl⟩
  obtain ⟨fd_turned_digits, F_turned_digits⟩ := c.def_ 21 (d := d_turned_digits) rfl
  have c_turned_digits : ∀ base : Heap, Cal P w K mg base 1 "_turned_digits" (sp_turned_digits K) := fun base => ⟨_, _, ["number", "base", "count"], ok_turned_digits T  F_turned_digits, He.glo_ok X G (c.fact 19 (f := .glo "_turned_digits") rfl), F_turned_digits.kp, FunD.bindsN F_turned_digits fun _ _ _ _ _ _ us hl => match us, hl with | [_, _, _], _ => rfl⟩
  obtain ⟨fd_power, F_power⟩ := c.def_ 22 (d := d_power) rfl
  have c_power : ∀ base : Heap, Cal P w K mg base 1 "_power" (sp_power K) := fun base => ⟨_, _, ["base", "count"], ok_power T  F_power, He.glo_ok X G (c.fact 20 (f := .glo "_power") rfl), F_power.kp, FunD.bindsN F_power fun _ _ _ _ _ _ us hl => match us, hl with | [_, _], _ => rfl⟩
  obtain ⟨fd_inverse, F_inverse⟩ := c.def_ 23 (d := d_inverse) rfl
  have c_inverse : ∀ base : Heap, Cal P w K mg base 1 "_inverse" (sp_inverse K) := fun base => ⟨_, _, ["number", "whole"], ok_inverse T  F_inverse, He.glo_ok X G (c.fact 21 (f := .glo "_inverse") rfl), F_inverse.kp, FunD.bindsN F_inverse fun _ _ _ _ _ _ us hl => match us, hl with | [_, _], _ => rfl⟩
  obtain ⟨fd_digits_of, F_digits_of⟩ := c.def_ 26 (d := d_digits_of) rfl
  have c_digits_of : ∀ base : Heap, Cal P w K mg base 1 "_digits_of" (sp_digits_of K) := fun base => ⟨_, _, ["root"], ok_digits_of T  F_digits_of, He.glo_ok X G (c.fact 24 (f := .glo "_digits_of") rfl), F_digits_of.kp, FunD.bindsN F_digits_of fun _ _ _ _ _ _ us hl => match us, hl with | [_], _ => rfl⟩
  obtain ⟨fd_name_of, F_name_of⟩ := c.def_ 27 (d := d_name_of) rfl
  have c_name_of : ∀ base : Heap, Cal P w K mg base 1 "_name_of" (sp_name_of K) := fun base => ⟨_, _, ["digits"], ok_name_of T  F_name_of, He.glo_ok X G (c.fact 25 (f := .glo "_name_of") rfl), F_name_of.kp, FunD.bindsN F_name_of fun _ _ _ _ _ _ us hl => match us, hl with | [_], _ => rfl⟩
  obtain ⟨fd_law_draws, F_law_draws⟩ := c.def_ 37 (d := d_law_draws) rfl
  have c_law_draws : ∀ base : Heap, Cal P w K mg base 1 "_law_draws" (sp_law_draws K) := fun base => ⟨_, _, ["script"], ok_law_draws T  F_law_draws, He.glo_ok X G (c.fact 35 (f := .glo "_law_draws") rfl), F_law_draws.kp, FunD.bindsN F_law_draws fun _ _ _ _ _ _ us hl => match us, hl with | [_], _ => rfl⟩
  obtain ⟨fd_law_draw, F_law_draw⟩ := c.def_ 38 (d := d_law_draw) rfl
  have c_law_draw : ∀ base : Heap, Cal P w K mg base 1 "_law_draw" (sp_law_draw K) := fun base => ⟨_, _, ["draws", "limit"], ok_law_draw T  F_law_draw, He.glo_ok X G (c.fact 36 (f := .glo "_law_draw") rfl), F_law_draw.kp, FunD.bindsN F_law_draw fun _ _ _ _ _ _ us hl => match us, hl with | [_, _], _ => rfl⟩
  obtain ⟨fd_law_data, F_law_data⟩ := c.def_ 47 (d := d_law_data) rfl
  have c_law_data : ∀ base : Heap, Cal P w K mg base 1 "_law_data" (sp_law_data K) := fun base => ⟨_, _, ["block"], ok_law_data T  F_law_data, He.glo_ok X G (c.fact 45 (f := .glo "_law_data") rfl), F_law_data.kp, FunD.bindsN F_law_data fun _ _ _ _ _ _ us hl => match us, hl with | [_], _ => rfl⟩
  obtain ⟨fd_is_block, F_is_block⟩ := c.def_ 2 (d := d_is_block) rfl
  have c_is_block : ∀ base : Heap, Cal P w K mg base 2 "is_block" (sp_is_block K) := fun base => ⟨_, _, ["number"], ok_is_block T (c_block_size base) F_is_block, He.glo_ok X G (c.fact 2 (f := .glo "is_block") rfl), F_is_block.kp, FunD.bindsN F_is_block fun _ _ _ _ _ _ us hl => match us, hl with | [_], _ => rfl⟩
  obtain ⟨fd_block_bytes, F_block_bytes⟩ := c.def_ 3 (d := d_block_bytes) rfl
  have c_block_bytes : ∀ base : Heap, Cal P w K mg base 2 "block_bytes" (sp_block_bytes K) := fun base => ⟨_, _, ["number"], ok_block_bytes T (c_block_size base) F_block_bytes, He.glo_ok X G (c.fact 3 (f := .glo "block_bytes") rfl), F_block_bytes.kp, FunD.bindsN F_block_bytes fun _ _ _ _ _ _ us hl => match us, hl with | [_], _ => rfl⟩
  obtain ⟨fd_split, F_split⟩ := c.def_ 4 (d := d_split) rfl
  have c_split : ∀ base : Heap, Cal P w K mg base 2 "split" (sp_split K) := fun base => ⟨_, _, ["content"], ok_split T (c_block_number base) F_split, He.glo_ok X G (c.fact 4 (f := .glo "split") rfl), F_split.kp, FunD.bindsN F_split fun _ _ _ _ _ _ us hl => match us, hl with | [_], _ => rfl⟩
  obtain ⟨fd_join, F_join⟩ := c.def_ 7 (d := d_join) rfl
  have c_join : ∀ base : Heap, Cal P w K mg base 2 "join" (sp_join K) := fun base => ⟨_, _, ["first", "second"], ok_join T (c_vector base) F_join, He.glo_ok X G (c.fact 7 (f := .glo "join") rfl), F_join.kp, FunD.bindsN F_join fun _ _ _ _ _ _ us hl => match us, hl with | [_, _], _ => rfl⟩
  obtain ⟨fd_counts_of, F_counts_of⟩ := c.def_ 9 (d := d_counts_of) rfl
  have c_counts_of : ∀ base : Heap, Cal P w K mg base 2 "counts_of" (sp_counts_of K) := fun base => ⟨_, _, ["vector"], ok_counts_of T (c_count_of base) F_counts_of, He.glo_ok X G (c.fact 9 (f := .glo "counts_of") rfl), F_counts_of.kp, FunD.bindsN F_counts_of fun _ _ _ _ _ _ us hl => match us, hl with | [_], _ => rfl⟩
  obtain ⟨fd_copy_name, F_copy_name⟩ := c.def_ 16 (d := d_copy_name) rfl
  have c_copy_name : ∀ base : Heap, Cal P w K mg base 2 "copy_name" (sp_copy_name K) := fun base => ⟨_, _, ["entry"], ok_copy_name T (c_root_of base) F_copy_name, He.glo_ok X G (c.fact 14 (f := .glo "copy_name") rfl), F_copy_name.kp, FunD.bindsN F_copy_name fun _ _ _ _ _ _ us hl => match us, hl with | [_], _ => rfl⟩
  obtain ⟨fd_mixed, F_mixed⟩ := c.def_ 17 (d := d_mixed) rfl
  have c_mixed : ∀ base : Heap, Cal P w K mg base 2 "mixed" (sp_mixed K) := fun base => ⟨_, _, ["digits", "base", "key"], ok_mixed T (c_number base) (c_factor base) (c_turned_digits base) F_mixed, He.glo_ok X G (c.fact 15 (f := .glo "mixed") rfl), F_mixed.kp, FunD.bindsN F_mixed fun _ _ _ _ _ _ us hl => match us, hl with | [_, _, _], _ => rfl⟩
  obtain ⟨fd_unmixed, F_unmixed⟩ := c.def_ 18 (d := d_unmixed) rfl
  have c_unmixed : ∀ base : Heap, Cal P w K mg base 2 "unmixed" (sp_unmixed K) := fun base => ⟨_, _, ["digits", "base", "key"], ok_unmixed T (c_power base) (c_number base) (c_inverse base) (c_factor base) (c_turned_digits base) F_unmixed, He.glo_ok X G (c.fact 16 (f := .glo "unmixed") rfl), F_unmixed.kp, FunD.bindsN F_unmixed fun _ _ _ _ _ _ us hl => match us, hl with | [_, _, _], _ => rfl⟩
  obtain ⟨fd_law_key, F_law_key⟩ := c.def_ 39 (d := d_law_key) rfl
  have c_law_key : ∀ base : Heap, Cal P w K mg base 2 "_law_key" (sp_law_key K) := fun base => ⟨_, _, ["draws"], ok_law_key T (c_law_draw base) F_law_key, He.glo_ok X G (c.fact 37 (f := .glo "_law_key") rfl), F_law_key.kp, FunD.bindsN F_law_key fun _ _ _ _ _ _ us hl => match us, hl with | [_], _ => rfl⟩
  obtain ⟨fd_law_user_name, F_law_user_name⟩ := c.def_ 40 (d := d_law_user_name) rfl
  have c_law_user_name : ∀ base : Heap, Cal P w K mg base 2 "_law_user_name" (sp_law_user_name K) := fun base => ⟨_, _, ["draws"], ok_law_user_name T (c_law_draw base) F_law_user_name, He.glo_ok X G (c.fact 38 (f := .glo "_law_user_name") rfl), F_law_user_name.kp, FunD.bindsN F_law_user_name fun _ _ _ _ _ _ us hl => match us, hl with | [_], _ => rfl⟩
  obtain ⟨fd_law_bytes, F_law_bytes⟩ := c.def_ 42 (d := d_law_bytes) rfl
  have c_law_bytes : ∀ base : Heap, Cal P w K mg base 2 "_law_bytes" (sp_law_bytes K) := fun base => ⟨_, _, ["draws"], ok_law_bytes T (c_law_draw base) F_law_bytes, He.glo_ok X G (c.fact 40 (f := .glo "_law_bytes") rfl), F_law_bytes.kp, FunD.bindsN F_law_bytes fun _ _ _ _ _ _ us hl => match us, hl with | [_], _ => rfl⟩
  obtain ⟨fd_joined, F_joined⟩ := c.def_ 5 (d := d_joined) rfl
  have c_joined : ∀ base : Heap, Cal P w K mg base 3 "joined" (sp_joined K) := fun base => ⟨_, _, ["numbers"], ok_joined T (c_is_block base) (c_block_bytes base) F_joined, He.glo_ok X G (c.fact 5 (f := .glo "joined") rfl), F_joined.kp, FunD.bindsN F_joined fun _ _ _ _ _ _ us hl => match us, hl with | [_], _ => rfl⟩
  obtain ⟨fd_key_of, F_key_of⟩ := c.def_ 13 (d := d_key_of) rfl
  have c_key_of : ∀ base : Heap, Cal P w K mg base 3 "key_of" (sp_key_of K) := fun base => ⟨_, _, ["entry"], ok_key_of T (c_counts_of base) F_key_of, He.glo_ok X G (c.fact 11 (f := .glo "key_of") rfl), F_key_of.kp, FunD.bindsN F_key_of fun _ _ _ _ _ _ us hl => match us, hl with | [_], _ => rfl⟩
  obtain ⟨fd_seal_name, F_seal_name⟩ := c.def_ 24 (d := d_seal_name) rfl
  have c_seal_name : ∀ base : Heap, Cal P w K mg base 3 "seal_name" (sp_seal_name K) := fun base => ⟨_, _, ["name", "key"], ok_seal_name T (c_root_of base) (c_name_of base) (c_mixed base) (c_digits_of base) F_seal_name, He.glo_ok X G (c.fact 22 (f := .glo "seal_name") rfl), F_seal_name.kp, FunD.bindsN F_seal_name fun _ _ _ _ _ _ us hl => match us, hl with | [_, _], _ => rfl⟩
  obtain ⟨fd_open_name, F_open_name⟩ := c.def_ 25 (d := d_open_name) rfl
  have c_open_name : ∀ base : Heap, Cal P w K mg base 3 "open_name" (sp_open_name K) := fun base => ⟨_, _, ["name", "key"], ok_open_name T (c_root_of base) (c_name_of base) (c_unmixed base) (c_digits_of base) F_open_name, He.glo_ok X G (c.fact 23 (f := .glo "open_name") rfl), F_open_name.kp, FunD.bindsN F_open_name fun _ _ _ _ _ _ us hl => match us, hl with | [_, _], _ => rfl⟩
  obtain ⟨fd_seal_blocks, F_seal_blocks⟩ := c.def_ 28 (d := d_seal_blocks) rfl
  have c_seal_blocks : ∀ base : Heap, Cal P w K mg base 3 "_seal_blocks" (sp_seal_blocks K) := fun base => ⟨_, _, ["blocks", "key"], ok_seal_blocks T (c_block_number base) (c_mixed base) (c_block_bytes base) F_seal_blocks, He.glo_ok X G (c.fact 26 (f := .glo "_seal_blocks") rfl), F_seal_blocks.kp, FunD.bindsN F_seal_blocks fun _ _ _ _ _ _ us hl => match us, hl with | [_, _], _ => rfl⟩
  obtain ⟨fd_open_blocks, F_open_blocks⟩ := c.def_ 29 (d := d_open_blocks) rfl
  have c_open_blocks : ∀ base : Heap, Cal P w K mg base 3 "_open_blocks" (sp_open_blocks K) := fun base => ⟨_, _, ["blocks", "key"], ok_open_blocks T (c_block_number base) (c_unmixed base) (c_block_bytes base) F_open_blocks, He.glo_ok X G (c.fact 27 (f := .glo "_open_blocks") rfl), F_open_blocks.kp, FunD.bindsN F_open_blocks fun _ _ _ _ _ _ us hl => match us, hl with | [_, _], _ => rfl⟩
  obtain ⟨fd_with, F_with⟩ := c.def_ 33 (d := d_with) rfl
  have c_with : ∀ base : Heap, Cal P w K mg base 3 "_with" (sp_with K) := fun base => ⟨_, _, ["entry", "name", "blocks"], ok_with T (c_Entry base) F_with, He.glo_ok X G (c.fact 31 (f := .glo "_with") rfl), F_with.kp, FunD.bindsN F_with fun _ _ _ _ _ _ us hl => match us, hl with | [_, _, _], _ => rfl⟩
  obtain ⟨fd_law_any_name, F_law_any_name⟩ := c.def_ 41 (d := d_law_any_name) rfl
  have c_law_any_name : ∀ base : Heap, Cal P w K mg base 3 "_law_any_name" (sp_law_any_name K) := fun base => ⟨_, _, ["draws"], ok_law_any_name T (c_law_user_name base) (c_law_draw base) F_law_any_name, He.glo_ok X G (c.fact 39 (f := .glo "_law_any_name") rfl), F_law_any_name.kp, FunD.bindsN F_law_any_name fun _ _ _ _ _ _ us hl => match us, hl with | [_], _ => rfl⟩
  obtain ⟨fd_law_entry, F_law_entry⟩ := c.def_ 43 (d := d_law_entry) rfl
  have c_law_entry : ∀ base : Heap, Cal P w K mg base 3 "_law_entry" (sp_law_entry K) := fun base => ⟨_, _, ["draws", "name"], ok_law_entry T (c_Entry base) (c_law_draw base) (c_law_bytes base) (c_split base) F_law_entry, He.glo_ok X G (c.fact 41 (f := .glo "_law_entry") rfl), F_law_entry.kp, FunD.bindsN F_law_entry fun _ _ _ _ _ _ us hl => match us, hl with | [_, _], _ => rfl⟩
  obtain ⟨fd_law_block, F_law_block⟩ := c.def_ 45 (d := d_law_block) rfl
  have c_law_block : ∀ base : Heap, Cal P w K mg base 3 "_law_block" (sp_law_block K) := fun base => ⟨_, _, ["draws"], ok_law_block T (c_split base) (c_law_draw base) F_law_block, He.glo_ok X G (c.fact 43 (f := .glo "_law_block") rfl), F_law_block.kp, FunD.bindsN F_law_block fun _ _ _ _ _ _ us hl => match us, hl with | [_], _ => rfl⟩
  obtain ⟨fd_seal_content, F_seal_content⟩ := c.def_ 30 (d := d_seal_content) rfl
  have c_seal_content : ∀ base : Heap, Cal P w K mg base 4 "seal_content" (sp_seal_content K) := fun base => ⟨_, _, ["content", "key"], ok_seal_content T (c_joined base) (c_seal_blocks base) (c_split base) F_seal_content, He.glo_ok X G (c.fact 28 (f := .glo "seal_content") rfl), F_seal_content.kp, FunD.bindsN F_seal_content fun _ _ _ _ _ _ us hl => match us, hl with | [_, _], _ => rfl⟩
  obtain ⟨fd_seal_entry, F_seal_entry⟩ := c.def_ 31 (d := d_seal_entry) rfl
  have c_seal_entry : ∀ base : Heap, Cal P w K mg base 4 "seal_entry" (sp_seal_entry K) := fun base => ⟨_, _, ["entry", "key"], ok_seal_entry T (c_with base) (c_seal_blocks base) (c_seal_name base) F_seal_entry, He.glo_ok X G (c.fact 29 (f := .glo "seal_entry") rfl), F_seal_entry.kp, FunD.bindsN F_seal_entry fun _ _ _ _ _ _ us hl => match us, hl with | [_, _], _ => rfl⟩
  obtain ⟨fd_open_entry, F_open_entry⟩ := c.def_ 32 (d := d_open_entry) rfl
  have c_open_entry : ∀ base : Heap, Cal P w K mg base 4 "open_entry" (sp_open_entry K) := fun base => ⟨_, _, ["entry", "key"], ok_open_entry T (c_with base) (c_open_blocks base) (c_open_name base) F_open_entry, He.glo_ok X G (c.fact 30 (f := .glo "open_entry") rfl), F_open_entry.kp, FunD.bindsN F_open_entry fun _ _ _ _ _ _ us hl => match us, hl with | [_, _], _ => rfl⟩
  obtain ⟨fd_winner, F_winner⟩ := c.def_ 14 (d := d_winner) rfl
  have c_winner : ∀ base : Heap, Cal P w K mg base 5 "winner" (sp_winner K) := fun base => ⟨_, _, ["entries"], ok_winner T (c_Entry base) (c_key_of base) (c_alike base) (c_join base) F_winner, He.glo_ok X G (c.fact 12 (f := .glo "winner") rfl), F_winner.kp, FunD.bindsN F_winner fun _ _ _ _ _ _ us hl => match us, hl with | [_], _ => rfl⟩
  obtain ⟨fd_changed, F_changed⟩ := c.def_ 36 (d := d_changed) rfl
  have c_changed : ∀ base : Heap, Cal P w K mg base 5 "_changed" (sp_changed K) := fun base => ⟨_, _, ["letter", "key", "change_name", "change_entry", "change_blocks"], ok_changed T (c_seal_entry base) (c_open_entry base) (c_seal_blocks base) (c_open_blocks base) (c_seal_name base) (c_open_name base) (c_block_bytes base) F_changed, He.glo_ok X G (c.fact 34 (f := .glo "_changed") rfl), F_changed.kp, FunD.bindsN F_changed fun _ _ _ _ _ _ us hl => match us, hl with | [_, _, _, _, _], _ => rfl⟩
  obtain ⟨fd_law_sealed, F_law_sealed⟩ := c.def_ 44 (d := d_law_sealed) rfl
  have c_law_sealed : ∀ base : Heap, Cal P w K mg base 5 "_law_sealed" (sp_law_sealed K) := fun base => ⟨_, _, ["entry", "key"], ok_law_sealed T (c_Entry base) (c_split base) (c_seal_content base) (c_seal_name base) F_law_sealed, He.glo_ok X G (c.fact 42 (f := .glo "_law_sealed") rfl), F_law_sealed.kp, FunD.bindsN F_law_sealed fun _ _ _ _ _ _ us hl => match us, hl with | [_, _], _ => rfl⟩
  obtain ⟨fd_seal_letter, F_seal_letter⟩ := c.def_ 34 (d := d_seal_letter) rfl
  have c_seal_letter : ∀ base : Heap, Cal P w K mg base 6 "seal_letter" (sp_seal_letter K) := fun base => ⟨_, _, ["letter", "key"], ok_seal_letter T (c_changed base) F_seal_letter, He.glo_ok X G (c.fact 32 (f := .glo "seal_letter") rfl), F_seal_letter.kp, FunD.bindsN F_seal_letter fun _ _ _ _ _ _ us hl => match us, hl with | [_, _], _ => rfl⟩
  obtain ⟨fd_open_letter, F_open_letter⟩ := c.def_ 35 (d := d_open_letter) rfl
  have c_open_letter : ∀ base : Heap, Cal P w K mg base 6 "open_letter" (sp_open_letter K) := fun base => ⟨_, _, ["letter", "key"], ok_open_letter T (c_changed base) F_open_letter, He.glo_ok X G (c.fact 33 (f := .glo "open_letter") rfl), F_open_letter.kp, FunD.bindsN F_open_letter fun _ _ _ _ _ _ us hl => match us, hl with | [_, _], _ => rfl⟩
  obtain ⟨fd_law_sealed_block, F_law_sealed_block⟩ := c.def_ 46 (d := d_law_sealed_block) rfl
  have c_law_sealed_block : ∀ base : Heap, Cal P w K mg base 6 "_law_sealed_block" (sp_law_sealed_block K) := fun base => ⟨_, _, ["block", "key"], ok_law_sealed_block T (c_Entry base) (c_law_sealed base) F_law_sealed_block, He.glo_ok X G (c.fact 44 (f := .glo "_law_sealed_block") rfl), F_law_sealed_block.kp, FunD.bindsN F_law_sealed_block fun _ _ _ _ _ _ us hl => match us, hl with | [_, _], _ => rfl⟩
  obtain ⟨fd_law_letters, F_law_letters⟩ := c.def_ 48 (d := d_law_letters) rfl
  have c_law_letters : ∀ base : Heap, Cal P w K mg base 7 "_law_letters" (sp_law_letters K) := fun base => ⟨_, _, ["draws", "entries", "key"], ok_law_letters T (c_law_block base) (c_law_sealed_block base) (c_law_any_name base) (c_law_draw base) (c_law_sealed base) (c_seal_name base) (c_law_data base) F_law_letters, He.glo_ok X G (c.fact 46 (f := .glo "_law_letters") rfl), F_law_letters.kp, FunD.bindsN F_law_letters fun _ _ _ _ _ _ us hl => match us, hl with | [_, _, _], _ => rfl⟩
  obtain ⟨fd_law, F_law⟩ := c.def_ 49 (d := d_law) rfl
  have e := hfa.symm.trans (He.glo_ok X G (c.fact 47 (f := .glo "law") rfl))
  cases e
  have b := FunD.bindsA (ps := ["script"]) F_law fun _ _ _ _ _ _ us hl => match us, hl with | [_], _ => rfl
  exact ⟨fd_law, fun s v => b s [v] rfl, fun base _ _ => ok_law T (c_law_draws base) (c_law_key base) (c_law_any_name base) (c_law_draw base) (c_law_entry base) (c_seal_entry base) (e_Entry base) (c_open_entry base) (c_law_sealed base) (c_copy_name base) (c_seal_name base) (c_alike base) (c_winner base) (c_law_letters base) (c_open_letter base) (c_seal_letter base) F_law⟩
end Vk55
set_option maxHeartbeats 0
open PySem PySem.W PySem.Calls PyProof.Rows
theorem PySem.Challenge.cw_folderkin_k55_sealed_entries_and_letters_holds : PySem.Challenge.rw_folderkin_k55_sealed_entries_and_letters.Holds := by
  w_on; o_law
  refine HandSHeadRun.head_imp (r := OpenLaw.row PySem.Challenge.rw_folderkin_k55_sealed_entries_and_letters) (q := view (OpenLaw.row PySem.Challenge.rw_folderkin_k55_sealed_entries_and_letters).prog [0, 62]) (H := Vk55.hk) (ob := Vk55.ob) (M := 10000) (loose := [PySem.Str.ofString "gcd", PySem.Str.ofString "FolderkinError", PySem.Str.ofString "InvalidBlock", PySem.Str.ofString "BLOCK", PySem.Str.ofString "block_number", PySem.Str.ofString "block_size", PySem.Str.ofString "is_block", PySem.Str.ofString "block_bytes", PySem.Str.ofString "split", PySem.Str.ofString "joined", PySem.Str.ofString "count_of", PySem.Str.ofString "join", PySem.Str.ofString "_vector", PySem.Str.ofString "counts_of", PySem.Str.ofString "Entry", PySem.Str.ofString "alike", PySem.Str.ofString "key_of", PySem.Str.ofString "winner", PySem.Str.ofString "root_of", PySem.Str.ofString "copy_name", PySem.Str.ofString "BYTE_BASE", PySem.Str.ofString "NAME_BASE", PySem.Str.ofString "mixed", PySem.Str.ofString "unmixed", PySem.Str.ofString "factor", PySem.Str.ofString "_number", PySem.Str.ofString "_turned_digits", PySem.Str.ofString "_power", PySem.Str.ofString "_inverse", PySem.Str.ofString "CHARACTERS", PySem.Str.ofString "seal_name", PySem.Str.ofString "open_name", PySem.Str.ofString "_digits_of", PySem.Str.ofString "_name_of", PySem.Str.ofString "_seal_blocks", PySem.Str.ofString "_open_blocks", PySem.Str.ofString "seal_content", PySem.Str.ofString "seal_entry", PySem.Str.ofString "open_entry", PySem.Str.ofString "_with", PySem.Str.ofString "seal_letter", PySem.Str.ofString "open_letter", PySem.Str.ofString "_changed", PySem.Str.ofString "_law_draws", PySem.Str.ofString "_law_draw", PySem.Str.ofString "_law_key", PySem.Str.ofString "_law_user_name", PySem.Str.ofString "_law_any_name", PySem.Str.ofString "_law_bytes", PySem.Str.ofString "_law_entry", PySem.Str.ofString "_law_sealed", PySem.Str.ofString "_law_block", PySem.Str.ofString "_law_sealed_block", PySem.Str.ofString "_law_data", PySem.Str.ofString "_law_letters"]) (d := HandSHeadRun.topDef (OpenLaw.row PySem.Challenge.rw_folderkin_k55_sealed_entries_and_letters).prog 62) (kwd := []) Vk55.ob_eq
    Vk55.run (by kernel_rfl) (by kernel_rfl) (by kernel_rfl) (by rfl) (by first | assumption | decide +kernel) (by decide +kernel) ⟨rfl, rfl, rfl, rfl, rfl, by decide +kernel⟩ ?hw ?hc
  case hw => w_witness2
  case hc =>
    refine L2.walk_ofE (l := PySem.Challenge.rw_folderkin_k55_sealed_entries_and_letters) (n := 63) (k := 8) (x := "script") (CX := L2.CX0) rfl (by decide) (by kernel_rfl) ⟨rfl, by decide, by decide⟩ ?F (fun _ _ _ _ z => z)
    intro w mg fa h Y G hmg0
    obtain ⟨K, KX, c⟩ := Y
    have hmg : mg ("law" : PySem.Str) = some (.ref fa) := by
      have e : (HandSHeadRun.topDef (OpenLaw.row PySem.Challenge.rw_folderkin_k55_sealed_entries_and_letters).prog 62).name = ("law" : PySem.Str) := by kernel_rfl
      rw [← e]
      exact hmg0
    obtain ⟨fd, hb, hF⟩ := Vk55.facts (P := (PySem.Challenge.rw_folderkin_k55_sealed_entries_and_letters).prog) (w := w) KX G hmg c
    exact ⟨K, fd, Vk55.sp_law K, KX, hb, fun H a ns hl _ hS => ⟨_, rfl, a, ns, rfl, hS, hl, fun _ => rfl⟩, hF⟩
